/- Walks. -/
import Derived.Test.YtpobkmjicbobdaaGreatBn34
namespace Go.Proofs.YtpobkmjicbobdaaGreat
set_option maxRecDepth 100000
set_option maxHeartbeats 40000000
open Go.RowKit
variable {base e n size:Nat} {v:Value} {w:World} {xs:List Value}
theorem aW.far {R:Nat} {a:Option Addr} {len cap P:Nat} (h:aW w R a len cap P) {X:Nat} (hX:w.heap.size≤X):∀b off,a=some ⟨b,off,none⟩→0<len→b≠X:=by
 intro b off ha hl;rcases h.bytes with h0 | ⟨b',off',ha',_,hb2,_⟩
 · omega
 · rw [ha'] at ha;cases ha;omega
theorem aC (w:World) (R o:Nat) (v:Value):w.grownBy (w.setCell ⟨R,o,none⟩ v) (some R) :=
 ⟨rfl,rfl,rfl,by simp [World.setCell],fun k _ hk=>Below.heap_setCell _ _ _ _ (fun e=>hk (by rw [e]))⟩
theorem aH {a b c:World} {R:Option Nat} {X:Nat} (h:a.grownBy b R) (hX:a.heap.size≤X) (k:b.grownBy c (some X)):a.grownBy c R :=
 ⟨k.os.trans h.os,k.tape.trans h.tape,k.output.trans h.output,Nat.le_trans h.size k.size,fun i hi hn=>(k.block i (Nat.lt_of_lt_of_le hi h.size) (fun e=>by cases e;omega)).trans (h.block i hi hn)⟩
def lI (s:ByteArray):Prop:=s.size≤100∧¬s.data.toList=[109,47,109]
def iO (k t:ByteArray) (q d n:Int):Prop:=lI k∧lI t∧(Lit.int .i64 q).wf=true∧(Lit.int .i64 d).wf=true∧(Lit.int .i64 n).wf=true
def BQ (R:Nat) (a:Option Addr) (len cap P:Nat) (w:World) (e:Ending) (w':World):Prop :=
 ∃k t q d n P',e=.returned (.agg #[.string k,iT q,iT d,.string t,iT n])∧iO k t q d n∧aW w' R a len cap P'∧P'≤P+5∧w.grownBy w' (some R)
theorem wW (R P:Nat) (a:Option Addr) (len cap:Nat) (w:World) (h:aW w R a len cap P) (hP:P<100000) :
 Calls Tryz.prog 105 #[.pointer (pT R)] w fun e w'=>∃z:ByteArray,e=.returned (.string z)∧lI z∧aW w' R a len cap (P+1)∧w.grownBy w' (some R):=by
 go_enter Tryz.func105,Tryz.ntmps105
 go_wp2_with fail
 have hb0:Bl w (w.alloc (.cells (([⟨#[97]⟩,⟨#[98]⟩,⟨#[97,98]⟩,⟨#[98,47,97,47,49]⟩,⟨#[98,47,97,98,47,49]⟩,⟨#[99]⟩]:List ByteArray).map Value.string).toArray 9)):=bZ;refine (rk lI R P a len cap w.heap.size 0 6 6 _ (h.below hb0) hP (by omega) (by omega) (by have:=h.lt;omega) (by simp) (kK w 9 [⟨#[97]⟩,⟨#[98]⟩,⟨#[97,98]⟩,⟨#[98,47,97,47,49]⟩,⟨#[98,47,97,98,47,49]⟩,⟨#[99]⟩] lI ?_)).mono ?_
 · intro s hs;simp only [List.mem_cons,List.not_mem_nil,or_false] at hs;rcases hs with rfl | rfl | rfl | rfl | rfl | rfl <;> (unfold lI;decide)
 rintro e w1 ⟨z,rfl,hz,hR1,hg1⟩;go_wp2;go_ret;exact ⟨z,rfl,hz,hR1,ae (aL hb0) hg1⟩
def Kd (d:Int):Prop:=d=1∨d=2∨d=3
def Wf (n:Int):Prop:=(Lit.int .i64 n).wf=true
theorem gP (R P:Nat) (a:Option Addr) (len cap:Nat) (q:Int) (w:World) (h:aW w R a len cap P) (hP:P<99000) (hq:(Lit.int .i64 q).wf=true) :
 Calls Tryz.prog 137 #[.pointer (pT R),iT q] w fun e w'=>BQ R a len cap P w e w':=by
 have hRw:=h.lt;obtain ⟨X,hX⟩:=aS w.heap.size;have HFX:Hid (∀b off,a=some ⟨b,off,none⟩→0<len→b≠X):=h.far (by omega);have hXR:X≠R:=by omega
 have HQ:=b6 hq;have HR0:=b6 h;clear h hq;go_enter Tryz.func137,Tryz.ntmps137
 go_wp2_with fail
 obtain ⟨W0,hW0⟩:∃W,W=w.alloc (.cells #[.string ⟨#[]⟩,iT 0,iT 0,.string ⟨#[]⟩,iT 0] 50):=⟨_,rfl⟩;have k0:Bl w W0:=by rw [hW0];exact bZ
 have B0:cn W0 X (.string ⟨#[]⟩) (iT 0) (iT 0) (.string ⟨#[]⟩) (iT 0):=by rw [hW0,hX];exact cn.new _ _ _ _ _ _ _
 have hXW:X<W0.heap.size:=B0.lt;rw [← hW0,← hX];have HG0:Hid (w.grownBy W0 (some R)):=aL k0;have HXw:Hid (w.heap.size≤X):=by show w.heap.size≤X;omega
 refine (wW R P a len cap _ (HR0.out.below k0) (by omega)).mono ?_;rintro e w1 ⟨kz,rfl,hkz,hR1,hg1⟩;have B1:=B0.grown hg1 hXR;have HG1:Hid (w.grownBy w1 (some R)):=ae HG0.out hg1;have HKZ:Hid (lI kz):=hkz;clear hW0 hX k0 B0 hg1 HG0 HR0 hkz hXW;go_wp2_with fail
 have ka:Bl w1 (w1.alloc (.cells (([1,2,3,3,3,1]:List Int).map iT).toArray 3)):=bZ;refine (dX Kd R (P+1) a len cap w1.heap.size 0 6 6 _ (hR1.below ka) (by omega) (by omega) (by omega) (by have:=hR1.lt;omega) (by simp) (dR w1 3 [1,2,3,3,3,1] Kd ?_)).mono ?_
 · intro s hs;simp only [List.mem_cons,List.not_mem_nil,or_false] at hs;rcases hs with rfl | rfl | rfl | rfl | rfl | rfl <;> (unfold Kd;decide)
 rintro e w2 ⟨d,rfl,hd,hR2,hg2⟩;have B2:=(B1.below ka).grown hg2 hXR;have HG2:Hid (w.grownBy w2 (some R)):=ae (ae HG1.out (aL ka)) hg2;clear B1 ka hg2 HG1 hR1;go_upto_region 2 with fail
 obtain ⟨Y,hY⟩:=aS w2.heap.size;obtain ⟨W2,hW2⟩:∃W,W=w2.alloc (.cells #[.string kz,iT q,iT d,.string ⟨#[]⟩,iT 0] 50):=⟨_,rfl⟩;have kb:Bl w2 W2:=by rw [hW2];exact bZ
 have BY:cn W2 Y (.string kz) (iT q) (iT d) (.string ⟨#[]⟩) (iT 0):=by rw [hW2,hY];exact cn.new _ _ _ _ _ _ _
 have BX:=B2.below kb;have hYR:Y≠R:=by have:=hR2.lt;omega
 have hYX:Y≠X:=by have:=B2.lt;omega
 have HFY:Hid (∀b off,a=some ⟨b,off,none⟩→0<len→b≠Y):=hR2.far (by omega);have HR2:Hid (aW W2 R a len cap (P+1+1)):=hR2.below kb;have HG3:Hid (w.grownBy W2 (some R)):=ae HG2.out (aL kb);have hYw:w.heap.size≤Y:=by have:=HG2.out.size;omega
 clear kb B2 HG2 hR2;rw [← hW2,← hY];clear hW2 hY;rcases hd with rfl | rfl | rfl
 · have hy2:=BY.c2;have hlY:=BY.lt;go_wp2_with fail
   have kc1:Bl W2 (W2.alloc (.cells ((([0,1,5,-3,100,-7]:List Int).map iT).toArray) 3)):=bZ;refine (dX Wf R (P+1+1) a len cap W2.heap.size 0 6 6 _ (HR2.out.below kc1) (by omega) (by omega) (by omega) (by have:=HR2.out.lt;omega) (by simp) (dR W2 3 [0,1,5,-3,100,-7] Wf ?_)).mono ?_
   · intro s hs;simp only [List.mem_cons,List.not_mem_nil,or_false] at hs;rcases hs with rfl | rfl | rfl | rfl | rfl | rfl <;> (unfold Wf;decide)
   rintro e w3 ⟨n,rfl,hn,hR3,hg3⟩;have BX3:=(BX.below kc1).grown hg3 hXR;have BY3:=(BY.below kc1).grown hg3 hYR;have HG4:Hid (w.grownBy w3 (some R)):=ae (ae HG3.out (aL kc1)) hg3;clear BX BY kc1 hg3 HG3 hy2 hlY;obtain ⟨W3,hW3⟩:∃W,W=w3.setCell ⟨Y,4,none⟩ (iT n):=⟨_,rfl⟩;have BY4:cn W3 Y (.string kz) (iT q) (iT 1) (.string ⟨#[]⟩) (iT n):=by rw [hW3];exact BY3.set4 _
   have BX4:cn W3 X (.string ⟨#[]⟩) (iT 0) (iT 0) (.string ⟨#[]⟩) (iT 0):=by rw [hW3];exact BX3.other hYX.symm _ _
   have hR4:aW W3 R a len cap (P+1+1+1):=by rw [hW3];exact hR3.other hYR HFY.out _ _
   have HG5:Hid (w.grownBy W3 (some R)):=by show w.grownBy W3 (some R);rw [hW3];exact aH HG4.out hYw (aC _ _ _ _)
   have y4:=BY3.c4;have f4:=BY3.fr 4;have lY:=BY3.lt;go_upto_region 4 with fail
   rw [← hW3];clear hW3 BX3 BY3 hR3 HG4 y4 f4 lY;have hy2:=BY4.c2;have hlY:=BY4.lt;go_wp2_with fail
   have kc2:Bl W3 (W3.alloc (.cells ((([⟨#[]⟩,⟨#[120]⟩,⟨#[121,121]⟩,⟨#[122,122,122]⟩]:List ByteArray).map Value.string).toArray) 9)):=bZ;refine (rk lI R (P+1+1+1) a len cap W3.heap.size 0 4 4 _ (hR4.below kc2) (by omega) (by omega) (by omega) (by have:=hR4.lt;omega) (by simp) (kK W3 9 [⟨#[]⟩,⟨#[120]⟩,⟨#[121,121]⟩,⟨#[122,122,122]⟩] lI ?_)).mono ?_
   · intro s hs;simp only [List.mem_cons,List.not_mem_nil,or_false] at hs;rcases hs with rfl | rfl | rfl | rfl <;> (unfold lI;decide)
   rintro e w5 ⟨t,rfl,ht,hR5,hg5⟩;have BX5:=(BX4.below kc2).grown hg5 hXR;have BY5:=(BY4.below kc2).grown hg5 hYR;have HG6:Hid (w.grownBy w5 (some R)):=ae (ae HG5.out (aL kc2)) hg5;clear BX4 BY4 kc2 hg5 HG5 hy2 hlY;obtain ⟨W5,hW5⟩:∃W,W=w5.setCell ⟨Y,3,none⟩ (.string t):=⟨_,rfl⟩;have BYv:cn W5 Y (.string kz) (iT q) (iT 1) (.string t) (iT n):=by rw [hW5];exact BY5.set3 _
   have BXv:cn W5 X (.string ⟨#[]⟩) (iT 0) (iT 0) (.string ⟨#[]⟩) (iT 0):=by rw [hW5];exact BX5.other hYX.symm _ _
   have hR6:aW W5 R a len cap (P+1+1+1+1):=by rw [hW5];exact hR5.other hYR HFY.out _ _
   have HG7:Hid (w.grownBy W5 (some R)):=by show w.grownBy W5 (some R);rw [hW5];exact aH HG6.out hYw (aC _ _ _ _)
   have y3:=BY5.c3;have f3:=BY5.fr 3;have lY:=BY5.lt;go_upto_region 6 with fail
   rw [← hW5];clear hW5 BX5 BY5 hR5 HG6 y3 f3 lY;have y0:=BYv.c0;have y1:=BYv.c1;have y2:=BYv.c2;have y3:=BYv.c3;have y4:=BYv.c4;have x0:=BXv.c0;have x1:=BXv.c1;have x2:=BXv.c2;have x3:=BXv.c3;have x4:=BXv.c4;have f0:=BXv.fr 0;have f1:=BXv.fr 1;have f2:=BXv.fr 2;have f3:=BXv.fr 3;have f4:=BXv.fr 4;have lX:=BXv.lt;have lY:=BYv.lt;clear BYv;go_wp2;refine bodyPost_ret (v:=.agg #[.string kz,iT q,iT 1,.string t,iT n]) (by simp [results,Tryz.results137,go_sem,x0,x1,x2,x3,x4]) rfl ⟨kz,t,q,1,n,P+1+1+1+1,rfl,⟨HKZ.out,ht,HQ.out,by decide,hn⟩,?_,by omega,?_⟩
   · exact ((((hR6.other hXR HFX.out _ _).other hXR HFX.out _ _).other hXR HFX.out _ _).other hXR HFX.out _ _).other hXR HFX.out _ _
   · exact aH HG7.out HXw.out (ae (ae (ae (ae (aC _ _ _ _) (aC _ _ _ _)) (aC _ _ _ _)) (aC _ _ _ _)) (aC _ _ _ _))
 · have BYv:=BY;have BXv:=BX;have HR2':=HR2.out;clear BY BX;have y0:=BYv.c0;have y1:=BYv.c1;have y2:=BYv.c2;have y3:=BYv.c3;have y4:=BYv.c4;have x0:=BXv.c0;have x1:=BXv.c1;have x2:=BXv.c2;have x3:=BXv.c3;have x4:=BXv.c4;have f0:=BXv.fr 0;have f1:=BXv.fr 1;have f2:=BXv.fr 2;have f3:=BXv.fr 3;have f4:=BXv.fr 4;have lX:=BXv.lt;have lY:=BYv.lt;clear BYv;go_wp2;refine bodyPost_ret (v:=.agg #[.string kz,iT q,iT 2,.string ⟨#[]⟩,iT 0]) (by simp [results,Tryz.results137,go_sem,x0,x1,x2,x3,x4]) rfl ⟨kz,⟨#[]⟩,q,2,0,P+1+1,rfl,⟨HKZ.out,(by unfold lI;decide),HQ.out,by decide,(by decide)⟩,?_,by omega,?_⟩
   · exact ((((HR2'.other hXR HFX.out _ _).other hXR HFX.out _ _).other hXR HFX.out _ _).other hXR HFX.out _ _).other hXR HFX.out _ _
   · exact aH HG3.out HXw.out (ae (ae (ae (ae (aC _ _ _ _) (aC _ _ _ _)) (aC _ _ _ _)) (aC _ _ _ _)) (aC _ _ _ _))
 · have hy2:=BY.c2;have hlY:=BY.lt;go_wp2_with fail
   have kc1:Bl W2 (W2.alloc (.cells ((([0,1,5,-3,100,-7]:List Int).map iT).toArray) 3)):=bZ;refine (dX Wf R (P+1+1) a len cap W2.heap.size 0 6 6 _ (HR2.out.below kc1) (by omega) (by omega) (by omega) (by have:=HR2.out.lt;omega) (by simp) (dR W2 3 [0,1,5,-3,100,-7] Wf ?_)).mono ?_
   · intro s hs;simp only [List.mem_cons,List.not_mem_nil,or_false] at hs;rcases hs with rfl | rfl | rfl | rfl | rfl | rfl <;> (unfold Wf;decide)
   rintro e w3 ⟨n,rfl,hn,hR3,hg3⟩;have BX3:=(BX.below kc1).grown hg3 hXR;have BY3:=(BY.below kc1).grown hg3 hYR;have HG4:Hid (w.grownBy w3 (some R)):=ae (ae HG3.out (aL kc1)) hg3;clear BX BY kc1 hg3 HG3 hy2 hlY;obtain ⟨W3,hW3⟩:∃W,W=w3.setCell ⟨Y,4,none⟩ (iT n):=⟨_,rfl⟩;have BY4:cn W3 Y (.string kz) (iT q) (iT 3) (.string ⟨#[]⟩) (iT n):=by rw [hW3];exact BY3.set4 _
   have BX4:cn W3 X (.string ⟨#[]⟩) (iT 0) (iT 0) (.string ⟨#[]⟩) (iT 0):=by rw [hW3];exact BX3.other hYX.symm _ _
   have hR4:aW W3 R a len cap (P+1+1+1):=by rw [hW3];exact hR3.other hYR HFY.out _ _
   have HG5:Hid (w.grownBy W3 (some R)):=by show w.grownBy W3 (some R);rw [hW3];exact aH HG4.out hYw (aC _ _ _ _)
   have y4:=BY3.c4;have f4:=BY3.fr 4;have lY:=BY3.lt;go_upto_region 4 with fail
   rw [← hW3];clear hW3 BX3 BY3 hR3 HG4 y4 f4 lY;have BYv:=BY4;have BXv:=BX4;clear BY4 BX4;have y0:=BYv.c0;have y1:=BYv.c1;have y2:=BYv.c2;have y3:=BYv.c3;have y4:=BYv.c4;have x0:=BXv.c0;have x1:=BXv.c1;have x2:=BXv.c2;have x3:=BXv.c3;have x4:=BXv.c4;have f0:=BXv.fr 0;have f1:=BXv.fr 1;have f2:=BXv.fr 2;have f3:=BXv.fr 3;have f4:=BXv.fr 4;have lX:=BXv.lt;have lY:=BYv.lt;clear BYv;go_wp2;refine bodyPost_ret (v:=.agg #[.string kz,iT q,iT 3,.string ⟨#[]⟩,iT n]) (by simp [results,Tryz.results137,go_sem,x0,x1,x2,x3,x4]) rfl ⟨kz,⟨#[]⟩,q,3,n,P+1+1+1,rfl,⟨HKZ.out,(by unfold lI;decide),HQ.out,by decide,hn⟩,?_,by omega,?_⟩
   · exact ((((hR4.other hXR HFX.out _ _).other hXR HFX.out _ _).other hXR HFX.out _ _).other hXR HFX.out _ _).other hXR HFX.out _ _
   · exact aH HG5.out HXw.out (ae (ae (ae (ae (aC _ _ _ _) (aC _ _ _ _)) (aC _ _ _ _)) (aC _ _ _ _)) (aC _ _ _ _))
theorem wO (o s m:Nat) (h:0<m) (hm:m % 2=1):(o+s)+(s+s)*(m / 2)=o+s*m:=by
 obtain ⟨k,rfl⟩:∃k,m=2*k+1:=⟨m / 2,by omega⟩;have:(2*k+1) / 2=k:=by omega
 rw [this];have:s*(2*k+1)=(s+s)*k+s:=by rw [Nat.mul_add,Nat.mul_one,Nat.add_mul];have:=Nat.mul_comm s (2*k);rw [this,Nat.mul_assoc,Nat.two_mul,Nat.mul_comm k s]
 omega
theorem wP (o s m:Nat) (hm:m % 2=0):o+(s+s)*(m / 2)=o+s*m:=by
 obtain ⟨k,rfl⟩:∃k,m=2*k:=⟨m / 2,by omega⟩;have:2*k / 2=k:=by omega
 rw [this];have:s*(2*k)=(s+s)*k:=by rw [Nat.add_mul];have:=Nat.mul_comm s (2*k);rw [this,Nat.mul_assoc,Nat.two_mul,Nat.mul_comm k s]
 omega
theorem nV (a b:ByteArray):(a++b).size=a.size+b.size:=by simp
theorem s6 (s:ByteArray) (m:Nat) (w:World) (hs:s.size=1) (hm:m≤100) (h3:m≠3) :
 Calls Tryz.prog 207 #[.string s,iT m] w fun e w'=>∃z:ByteArray,e=.returned (.string z)∧lI z∧w'=w:=by
 go_enter Tryz.func207,Tryz.ntmps207
 go_wp2;go_loop [0,1,5] (fun sv iv ov=>∃(z o:ByteArray) (j:Nat),sv=.string z∧iv=iT j∧ov=.string o∧o.size+z.size*j=m∧j≤m) (fun _ i _=>(intOf i).toNat)
 case atStart=>exact ⟨s,⟨#[]⟩,m,rfl,rfl,rfl,by rw [hs];show 0+1*m=m;omega,Nat.le_refl _⟩
 case round =>
  obtain ⟨z,o,j,rfl,rfl,rfl,hsum,hjm⟩:=hrel;have HS:Hid (o.size+z.size*j=m):=hsum;clear hsum;by_cases hj:j=0
  · subst hj;go_wp2;go_ret;refine ⟨o,rfl,?_,rfl⟩;have:=HS.out;refine ⟨by omega,fun e=>?_⟩;have he:=congrArg List.length e;have hl:o.data.toList.length=o.size:=rfl;rw [hl] at he;simp at he;omega
  · have hj0:(0:Int)<(j:Int):=by omega
    have hj1:(j:Int)≤100:=by omega
    have hz1:z.size≤z.size*j:=Nat.le_mul_of_pos_right _ (by omega);have hsm:=HS.out;have g1:¬9223372036854775807<o.size+z.size:=by omega
    have g2:¬9223372036854775807<z.size+z.size:=by omega
    clear hz1 hsm;by_cases h2:j % 2=1
    · have h3:(j:Int) % 2=1:=by omega
      go_wp2;go_round
      case rel=>exact ⟨z++z,o++z,j / 2,rfl,by go_num,rfl,by rw [nV,nV,wO _ _ _ (by omega) h2];exact HS.out,by omega⟩
      case measure=>simp [intOf];omega
    · have h3:(j:Int) % 2=0:=by omega
      go_wp2;go_round
      case rel=>exact ⟨z++z,o,j / 2,rfl,by go_num,rfl,by rw [nV,wP _ _ _ (by omega)];exact HS.out,by omega⟩
      case measure=>simp [intOf];omega
theorem ep (R P:Nat) (a:Option Addr) (len cap:Nat) (k t:ByteArray) (q d n:Int) (w:World) (h:aW w R a len cap P) (hP:P<99000) (hF:iO k t q d n) :
 Calls Tryz.prog 156 #[.pointer (pT R),.agg #[.string k,iT q,iT d,.string t,iT n]] w fun e w'=>BQ R a len cap P w e w':=by
 have hRw:=h.lt;obtain ⟨X,hX⟩:=aS w.heap.size;have HFX:Hid (∀b off,a=some ⟨b,off,none⟩→0<len→b≠X):=h.far (by omega);have HFY:Hid (∀b off,a=some ⟨b,off,none⟩→0<len→b≠X+1):=h.far (by omega);have hXR:X≠R:=by omega
 have hYR:X+1≠R:=by omega
 have HF:=b6 hF;have HR0:=b6 h;clear h hF;go_enter Tryz.func156,Tryz.ntmps156
 go_wp2_with fail
 obtain ⟨W0,hW0⟩:∃W,W=(w.alloc (.cells #[.string k,iT q,iT d,.string t,iT n] 50)).alloc (.cells #[.string ⟨#[]⟩,iT 0,iT 0,.string ⟨#[]⟩,iT 0] 50):=⟨_,rfl⟩;have k0:Bl w W0:=by rw [hW0];exact bZ.alloc (by simp) _
 have B0:cn W0 X (.string k) (iT q) (iT d) (.string t) (iT n):=by rw [hW0,hX];exact (cn.new _ _ _ _ _ _ _).alloc _
 have C0:cn W0 (X+1) (.string ⟨#[]⟩) (iT 0) (iT 0) (.string ⟨#[]⟩) (iT 0):=by
  rw [hW0,hX];have:=cn.new (w.alloc (.cells #[.string k,iT q,iT d,.string t,iT n] 50)) 50 (.string ⟨#[]⟩) (iT 0) (iT 0) (.string ⟨#[]⟩) (iT 0);simpa using this
 rw [← hW0,← hX];have HG0:Hid (w.grownBy W0 (some R)):=aL k0;have HXw:Hid (w.heap.size≤X):=by show w.heap.size≤X;omega
 have HYw:Hid (w.heap.size≤X+1):=by show w.heap.size≤X+1;omega
 refine (cF R P a len cap 48 _ (HR0.out.below k0) (by omega) (by omega)).mono ?_;rintro e w1 ⟨z,rfl,hz,hR1,hg1⟩;have BX:=B0.grown hg1 hXR;have BY:=C0.grown hg1 hYR;have HG1:Hid (w.grownBy w1 (some R)):=ae HG0.out hg1;clear hW0 hX k0 B0 C0 hg1 HG0 HR0;have hXY:X≠X+1:=by omega
 by_cases z0:z=0
 · subst z0;go_wp2_with fail
   have kc:Bl w1 (w1.alloc (.cells ((([⟨#[]⟩,⟨#[65]⟩,⟨#[97,32,98]⟩,⟨#[97,98,99,100,101,102,103,104,105]⟩,⟨#[97,98,99,100,101,102,103,104]⟩,⟨#[48,47,57]⟩]:List ByteArray).map Value.string).toArray) 9)):=bZ;refine (rk lI R (P+1) a len cap w1.heap.size 0 6 6 _ (hR1.below kc) (by omega) (by omega) (by omega) (by have:=hR1.lt;omega) (by simp) (kK w1 9 [⟨#[]⟩,⟨#[65]⟩,⟨#[97,32,98]⟩,⟨#[97,98,99,100,101,102,103,104,105]⟩,⟨#[97,98,99,100,101,102,103,104]⟩,⟨#[48,47,57]⟩] lI ?_)).mono ?_
   · intro s hs;simp only [List.mem_cons,List.not_mem_nil,or_false] at hs;rcases hs with rfl | rfl | rfl | rfl | rfl | rfl <;> (unfold lI;decide)
   rintro e w3 ⟨v,rfl,hv,hR3,hg3⟩;have BX3:=(BX.below kc).grown hg3 hXR;have BY3:=(BY.below kc).grown hg3 hYR;have HG4:Hid (w.grownBy w3 (some R)):=ae (ae HG1.out (aL kc)) hg3;clear BX BY kc hg3 HG1;obtain ⟨W3,hW3⟩:∃W,W=w3.setCell ⟨X,0,none⟩ (.string v):=⟨_,rfl⟩;have BXv:=BX3.set0 (.string v);have BYv:=BY3.other (Ne.symm hXY) 0 (.string v);have hR4:aW W3 R a len cap (P+1+1):=by rw [hW3];exact hR3.other hXR HFX.out _ _
   have HG5:Hid (w.grownBy W3 (some R)):=by show w.grownBy W3 (some R);rw [hW3];exact aH HG4.out HXw.out (aC _ _ _ _)
   have xx:=BX3.c0;have ff:=BX3.fr 0;have lx:=BX3.lt;rw [← hW3] at BXv BYv;go_upto_region 12 with fail
   rw [← hW3];clear hW3 BX3 BY3 hR3 HG4 xx ff lx;have x0:=BXv.c0;have x1:=BXv.c1;have x2:=BXv.c2;have x3:=BXv.c3;have x4:=BXv.c4;have y0:=BYv.c0;have y1:=BYv.c1;have y2:=BYv.c2;have y3:=BYv.c3;have y4:=BYv.c4;have f0:=BYv.fr 0;have f1:=BYv.fr 1;have f2:=BYv.fr 2;have f3:=BYv.fr 3;have f4:=BYv.fr 4;have lX:=BXv.lt;have lY:=BYv.lt;clear BXv;go_wp2;refine bodyPost_ret (v:=.agg #[.string v,iT q,iT d,.string t,iT n]) (by simp [results,Tryz.results156,go_sem,y0,y1,y2,y3,y4]) rfl ⟨v,t,q,d,n,P+1+1,rfl,⟨hv,HF.out.2.1,HF.out.2.2.1,HF.out.2.2.2.1,HF.out.2.2.2.2⟩,?_,by omega,?_⟩
   · exact ((((hR4.other hYR HFY.out _ _).other hYR HFY.out _ _).other hYR HFY.out _ _).other hYR HFY.out _ _).other hYR HFY.out _ _
   · exact aH HG5.out HYw.out (ae (ae (ae (ae (aC _ _ _ _) (aC _ _ _ _)) (aC _ _ _ _)) (aC _ _ _ _)) (aC _ _ _ _))
 by_cases z1:z=1
 · subst z1;go_wp2_with fail
   have kc:Bl w1 (w1.alloc (.cells ((([0,-1,100000,100001]:List Int).map iT).toArray) 3)):=bZ;refine (dX Wf R (P+1) a len cap w1.heap.size 0 4 4 _ (hR1.below kc) (by omega) (by omega) (by omega) (by have:=hR1.lt;omega) (by simp) (dR w1 3 [0,-1,100000,100001] Wf ?_)).mono ?_
   · intro s hs;simp only [List.mem_cons,List.not_mem_nil,or_false] at hs;rcases hs with rfl | rfl | rfl | rfl <;> (unfold Wf;decide)
   rintro e w3 ⟨v,rfl,hv,hR3,hg3⟩;have BX3:=(BX.below kc).grown hg3 hXR;have BY3:=(BY.below kc).grown hg3 hYR;have HG4:Hid (w.grownBy w3 (some R)):=ae (ae HG1.out (aL kc)) hg3;clear BX BY kc hg3 HG1;obtain ⟨W3,hW3⟩:∃W,W=w3.setCell ⟨X,1,none⟩ (iT v):=⟨_,rfl⟩;have BXv:=BX3.set1 (iT v);have BYv:=BY3.other (Ne.symm hXY) 1 (iT v);have hR4:aW W3 R a len cap (P+1+1):=by rw [hW3];exact hR3.other hXR HFX.out _ _
   have HG5:Hid (w.grownBy W3 (some R)):=by show w.grownBy W3 (some R);rw [hW3];exact aH HG4.out HXw.out (aC _ _ _ _)
   have xx:=BX3.c1;have ff:=BX3.fr 1;have lx:=BX3.lt;rw [← hW3] at BXv BYv;go_upto_region 12 with fail
   rw [← hW3];clear hW3 BX3 BY3 hR3 HG4 xx ff lx;have x0:=BXv.c0;have x1:=BXv.c1;have x2:=BXv.c2;have x3:=BXv.c3;have x4:=BXv.c4;have y0:=BYv.c0;have y1:=BYv.c1;have y2:=BYv.c2;have y3:=BYv.c3;have y4:=BYv.c4;have f0:=BYv.fr 0;have f1:=BYv.fr 1;have f2:=BYv.fr 2;have f3:=BYv.fr 3;have f4:=BYv.fr 4;have lX:=BXv.lt;have lY:=BYv.lt;clear BXv;go_wp2;refine bodyPost_ret (v:=.agg #[.string k,iT v,iT d,.string t,iT n]) (by simp [results,Tryz.results156,go_sem,y0,y1,y2,y3,y4]) rfl ⟨k,t,v,d,n,P+1+1,rfl,⟨HF.out.1,HF.out.2.1,hv,HF.out.2.2.2.1,HF.out.2.2.2.2⟩,?_,by omega,?_⟩
   · exact ((((hR4.other hYR HFY.out _ _).other hYR HFY.out _ _).other hYR HFY.out _ _).other hYR HFY.out _ _).other hYR HFY.out _ _
   · exact aH HG5.out HYw.out (ae (ae (ae (ae (aC _ _ _ _) (aC _ _ _ _)) (aC _ _ _ _)) (aC _ _ _ _)) (aC _ _ _ _))
 by_cases z2:z=2
 · subst z2;go_wp2_with fail
   have kc:Bl w1 (w1.alloc (.cells ((([0,4,-1,1,2,3]:List Int).map iT).toArray) 3)):=bZ;refine (dX Wf R (P+1) a len cap w1.heap.size 0 6 6 _ (hR1.below kc) (by omega) (by omega) (by omega) (by have:=hR1.lt;omega) (by simp) (dR w1 3 [0,4,-1,1,2,3] Wf ?_)).mono ?_
   · intro s hs;simp only [List.mem_cons,List.not_mem_nil,or_false] at hs;rcases hs with rfl | rfl | rfl | rfl | rfl | rfl <;> (unfold Wf;decide)
   rintro e w3 ⟨v,rfl,hv,hR3,hg3⟩;have BX3:=(BX.below kc).grown hg3 hXR;have BY3:=(BY.below kc).grown hg3 hYR;have HG4:Hid (w.grownBy w3 (some R)):=ae (ae HG1.out (aL kc)) hg3;clear BX BY kc hg3 HG1;obtain ⟨W3,hW3⟩:∃W,W=w3.setCell ⟨X,2,none⟩ (iT v):=⟨_,rfl⟩;have BXv:=BX3.set2 (iT v);have BYv:=BY3.other (Ne.symm hXY) 2 (iT v);have hR4:aW W3 R a len cap (P+1+1):=by rw [hW3];exact hR3.other hXR HFX.out _ _
   have HG5:Hid (w.grownBy W3 (some R)):=by show w.grownBy W3 (some R);rw [hW3];exact aH HG4.out HXw.out (aC _ _ _ _)
   have xx:=BX3.c2;have ff:=BX3.fr 2;have lx:=BX3.lt;rw [← hW3] at BXv BYv;go_upto_region 12 with fail
   rw [← hW3];clear hW3 BX3 BY3 hR3 HG4 xx ff lx;have x0:=BXv.c0;have x1:=BXv.c1;have x2:=BXv.c2;have x3:=BXv.c3;have x4:=BXv.c4;have y0:=BYv.c0;have y1:=BYv.c1;have y2:=BYv.c2;have y3:=BYv.c3;have y4:=BYv.c4;have f0:=BYv.fr 0;have f1:=BYv.fr 1;have f2:=BYv.fr 2;have f3:=BYv.fr 3;have f4:=BYv.fr 4;have lX:=BXv.lt;have lY:=BYv.lt;clear BXv;go_wp2;refine bodyPost_ret (v:=.agg #[.string k,iT q,iT v,.string t,iT n]) (by simp [results,Tryz.results156,go_sem,y0,y1,y2,y3,y4]) rfl ⟨k,t,q,v,n,P+1+1,rfl,⟨HF.out.1,HF.out.2.1,HF.out.2.2.1,hv,HF.out.2.2.2.2⟩,?_,by omega,?_⟩
   · exact ((((hR4.other hYR HFY.out _ _).other hYR HFY.out _ _).other hYR HFY.out _ _).other hYR HFY.out _ _).other hYR HFY.out _ _
   · exact aH HG5.out HYw.out (ae (ae (ae (ae (aC _ _ _ _) (aC _ _ _ _)) (aC _ _ _ _)) (aC _ _ _ _)) (aC _ _ _ _))
 by_cases z3:z=3
 · subst z3;go_wp2_with fail
   have kc:Bl w1 (w1.alloc (.cells ((([1000000,1000001,-1000001,9223372036854775807]:List Int).map iT).toArray) 3)):=bZ;refine (dX Wf R (P+1) a len cap w1.heap.size 0 4 4 _ (hR1.below kc) (by omega) (by omega) (by omega) (by have:=hR1.lt;omega) (by simp) (dR w1 3 [1000000,1000001,-1000001,9223372036854775807] Wf ?_)).mono ?_
   · intro s hs;simp only [List.mem_cons,List.not_mem_nil,or_false] at hs;rcases hs with rfl | rfl | rfl | rfl <;> (unfold Wf;decide)
   rintro e w3 ⟨v,rfl,hv,hR3,hg3⟩;have BX3:=(BX.below kc).grown hg3 hXR;have BY3:=(BY.below kc).grown hg3 hYR;have HG4:Hid (w.grownBy w3 (some R)):=ae (ae HG1.out (aL kc)) hg3;clear BX BY kc hg3 HG1;obtain ⟨W3,hW3⟩:∃W,W=w3.setCell ⟨X,4,none⟩ (iT v):=⟨_,rfl⟩;have BXv:=BX3.set4 (iT v);have BYv:=BY3.other (Ne.symm hXY) 4 (iT v);have hR4:aW W3 R a len cap (P+1+1):=by rw [hW3];exact hR3.other hXR HFX.out _ _
   have HG5:Hid (w.grownBy W3 (some R)):=by show w.grownBy W3 (some R);rw [hW3];exact aH HG4.out HXw.out (aC _ _ _ _)
   have xx:=BX3.c4;have ff:=BX3.fr 4;have lx:=BX3.lt;rw [← hW3] at BXv BYv;go_upto_region 12 with fail
   rw [← hW3];clear hW3 BX3 BY3 hR3 HG4 xx ff lx;have x0:=BXv.c0;have x1:=BXv.c1;have x2:=BXv.c2;have x3:=BXv.c3;have x4:=BXv.c4;have y0:=BYv.c0;have y1:=BYv.c1;have y2:=BYv.c2;have y3:=BYv.c3;have y4:=BYv.c4;have f0:=BYv.fr 0;have f1:=BYv.fr 1;have f2:=BYv.fr 2;have f3:=BYv.fr 3;have f4:=BYv.fr 4;have lX:=BXv.lt;have lY:=BYv.lt;clear BXv;go_wp2;refine bodyPost_ret (v:=.agg #[.string k,iT q,iT d,.string t,iT v]) (by simp [results,Tryz.results156,go_sem,y0,y1,y2,y3,y4]) rfl ⟨k,t,q,d,v,P+1+1,rfl,⟨HF.out.1,HF.out.2.1,HF.out.2.2.1,HF.out.2.2.2.1,hv⟩,?_,by omega,?_⟩
   · exact ((((hR4.other hYR HFY.out _ _).other hYR HFY.out _ _).other hYR HFY.out _ _).other hYR HFY.out _ _).other hYR HFY.out _ _
   · exact aH HG5.out HYw.out (ae (ae (ae (ae (aC _ _ _ _) (aC _ _ _ _)) (aC _ _ _ _)) (aC _ _ _ _)) (aC _ _ _ _))
 by_cases z4:z=4
 · subst z4;go_wp2_with fail
   refine (s6 ⟨#[116]⟩ 60 _ rfl (by omega) (by omega)).mono ?_;rintro e w' ⟨s1,rfl,hs1,hw⟩;have hw':=hw.symm;subst hw';go_wp2_with fail
   refine (s6 ⟨#[116]⟩ 61 _ rfl (by omega) (by omega)).mono ?_;rintro e w' ⟨s2,rfl,hs2,hw⟩;have hw':=hw.symm;subst hw';have HS1:Hid (lI s1):=hs1;have HS2:Hid (lI s2):=hs2;clear hs1 hs2;go_wp2_with fail
   have kc:Bl w1 (w1.alloc (.cells ((([⟨#[113]⟩,s1,s2]:List ByteArray).map Value.string).toArray) 9)):=bZ;refine (rk lI R (P+1) a len cap w1.heap.size 0 3 3 _ (hR1.below kc) (by omega) (by omega) (by omega) (by have:=hR1.lt;omega) (by simp) (kK w1 9 [⟨#[113]⟩,s1,s2] lI ?_)).mono ?_
   · intro s hs;simp only [List.mem_cons,List.not_mem_nil,or_false] at hs;rcases hs with rfl | rfl | rfl
     · unfold lI;decide
     · exact HS1.out
     · exact HS2.out
   rintro e w3 ⟨v,rfl,hv,hR3,hg3⟩;have BX3:=(BX.below kc).grown hg3 hXR;have BY3:=(BY.below kc).grown hg3 hYR;have HG4:Hid (w.grownBy w3 (some R)):=ae (ae HG1.out (aL kc)) hg3;clear BX BY kc hg3 HG1;obtain ⟨W3,hW3⟩:∃W,W=w3.setCell ⟨X,3,none⟩ (.string v):=⟨_,rfl⟩;have BXv:=BX3.set3 (.string v);have BYv:=BY3.other (Ne.symm hXY) 3 (.string v);have hR4:aW W3 R a len cap (P+1+1):=by rw [hW3];exact hR3.other hXR HFX.out _ _
   have HG5:Hid (w.grownBy W3 (some R)):=by show w.grownBy W3 (some R);rw [hW3];exact aH HG4.out HXw.out (aC _ _ _ _)
   have xx:=BX3.c3;have ff:=BX3.fr 3;have lx:=BX3.lt;rw [← hW3] at BXv BYv;go_upto_region 12 with fail
   rw [← hW3];clear hW3 BX3 BY3 hR3 HG4 xx ff lx;have x0:=BXv.c0;have x1:=BXv.c1;have x2:=BXv.c2;have x3:=BXv.c3;have x4:=BXv.c4;have y0:=BYv.c0;have y1:=BYv.c1;have y2:=BYv.c2;have y3:=BYv.c3;have y4:=BYv.c4;have f0:=BYv.fr 0;have f1:=BYv.fr 1;have f2:=BYv.fr 2;have f3:=BYv.fr 3;have f4:=BYv.fr 4;have lX:=BXv.lt;have lY:=BYv.lt;clear BXv;go_wp2;refine bodyPost_ret (v:=.agg #[.string k,iT q,iT d,.string v,iT n]) (by simp [results,Tryz.results156,go_sem,y0,y1,y2,y3,y4]) rfl ⟨k,v,q,d,n,P+1+1,rfl,⟨HF.out.1,hv,HF.out.2.2.1,HF.out.2.2.2.1,HF.out.2.2.2.2⟩,?_,by omega,?_⟩
   · exact ((((hR4.other hYR HFY.out _ _).other hYR HFY.out _ _).other hYR HFY.out _ _).other hYR HFY.out _ _).other hYR HFY.out _ _
   · exact aH HG5.out HYw.out (ae (ae (ae (ae (aC _ _ _ _) (aC _ _ _ _)) (aC _ _ _ _)) (aC _ _ _ _)) (aC _ _ _ _))
 have e0:(z == 0)=false:=by simpa using z0
 have e1:(z == 1)=false:=by simpa using z1
 have e2:(z == 2)=false:=by simpa using z2
 have e3:(z == 3)=false:=by simpa using z3
 have e4:(z == 4)=false:=by simpa using z4
 have BXv:=BX;have BYv:=BY;clear BX BY;have x0:=BXv.c0;have x1:=BXv.c1;have x2:=BXv.c2;have x3:=BXv.c3;have x4:=BXv.c4;have y0:=BYv.c0;have y1:=BYv.c1;have y2:=BYv.c2;have y3:=BYv.c3;have y4:=BYv.c4;have f0:=BYv.fr 0;have f1:=BYv.fr 1;have f2:=BYv.fr 2;have f3:=BYv.fr 3;have f4:=BYv.fr 4;have lX:=BXv.lt;have lY:=BYv.lt;clear BXv;go_wp2;refine bodyPost_ret (v:=.agg #[.string k,iT q,iT d,.string t,iT n]) (by simp [results,Tryz.results156,go_sem,y0,y1,y2,y3,y4]) rfl ⟨k,t,q,d,n,P+1,rfl,HF.out,?_,by omega,?_⟩
 · exact ((((hR1.other hYR HFY.out _ _).other hYR HFY.out _ _).other hYR HFY.out _ _).other hYR HFY.out _ _).other hYR HFY.out _ _
 · exact aH HG1.out HYw.out (ae (ae (ae (ae (aC _ _ _ _) (aC _ _ _ _)) (aC _ _ _ _)) (aC _ _ _ _)) (aC _ _ _ _))
theorem pr (w:World) (s:ByteArray) (Q d:Int) (t:ByteArray) (m:Int):∀j u,[Value.string s,iT Q,iT d,.string t,iT m][j]?=some u→(w.alloc (.cells #[.string s,iT Q,iT d,.string t,iT m] 50)).cell? ((⟨w.heap.size,0,none⟩:Addr).add j)=some u:=by
 intro j u hu;rw [Go.WideShapes.add_plain];match j,hu with
 | 0,hu=>simp at hu;subst hu;simp
 | 1,hu=>simp at hu;subst hu;simp
 | 2,hu=>simp at hu;subst hu;simp
 | 3,hu=>simp at hu;subst hu;simp
 | 4,hu=>simp at hu;subst hu;simp
theorem vk {w w':World} {base e size n:Nat} {v:Value} {xs:List Value} (h:w.ownsRow base e size v n xs) (hb:Bl w w'):w'.ownsRow base e size v n xs:=h.kept (row:=none) ⟨hb.os,hb.tape,hb.output,hb.size,fun k hk _=>hb.block k hk⟩ (by
 cases v.ownBlock with
 | none=>exact .inl rfl
 | some x=>exact .inr (by simp))
theorem vl {g0:Addr} {n0 c0 m:Nat} (h:w.ownsRow base e size v n xs) (hn:v=nZ ↔ Value.slice (some g0) n0 c0=nZ∧m=0):∃g c,v=sL g n c :=
 oh h (fun e=>by cases (hn.1 e).1)
def Bv:Value→Nat
 | .slice _ n _=>n
 | _=>0
end Go.Proofs.YtpobkmjicbobdaaGreat
