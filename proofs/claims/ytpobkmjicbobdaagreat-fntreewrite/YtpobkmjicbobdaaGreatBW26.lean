/- Walks. -/
import Derived.Test.YtpobkmjicbobdaaGreatBW25
namespace Go.Proofs.YtpobkmjicbobdaaGreat
set_option maxRecDepth 100000
set_option maxHeartbeats 40000000
open Go.RowKit
variable {M:List ac} {P R base c cap e g len size:Nat} {a:Option Addr} {d q:Int} {k t:ByteArray} {w w':World} {xs:List Value}
theorem gH (R P:Nat) (a:Option Addr) (len cap:Nat) (k t:ByteArray) (q d n:Int) (w:World) (h:bh w R a len cap P) (hP:P<99000) (hF:jX k t q d n) :
 Calls Tryz.prog 156 #[.pointer (pT R),.agg #[.string k,iT q,iT d,.string t,iT n]] w fun e w'=>Gi R a len cap P w e w':=by
 have au:=h.lt;obtain ⟨X,hX⟩:=aG w.heap.size;have a1:Eq (∀b aa,a=some ⟨b,aa,none⟩→0<len→b≠X):=h.far (by omega);have r:Eq (∀b aa,a=some ⟨b,aa,none⟩→0<len→b≠X+1):=h.far (by omega);have E:X≠R:=by omega
 have m:X+1≠R:=by omega
 have J:=az hF;have ab:=az h;clear h hF;go_enter Tryz.func156,Tryz.ntmps156
 go_wp2_with fail
 obtain ⟨W0,a0⟩:∃W,W=(w.alloc (.cells #[.string k,iT q,iT d,.string t,iT n] 50)).alloc (.cells #[.string ⟨#[]⟩,iT 0,iT 0,.string ⟨#[]⟩,iT 0] 50):=⟨_,rfl⟩;have k0:Bl w W0:=by rw [a0];exact bZ.alloc (by simp) _
 have B0:cw W0 X (.string k) (iT q) (iT d) (.string t) (iT n):=by rw [a0,hX];exact (cw.new _ _ _ _ _ _ _).alloc _
 have C0:cw W0 (X+1) (.string ⟨#[]⟩) (iT 0) (iT 0) (.string ⟨#[]⟩) (iT 0):=by
  rw [a0,hX];have:=cw.new (w.alloc (.cells #[.string k,iT q,iT d,.string t,iT n] 50)) 50 (.string ⟨#[]⟩) (iT 0) (iT 0) (.string ⟨#[]⟩) (iT 0);simpa using this
 rw [← a0,← hX];have ag:Eq (w.grownBy W0 (some R)):=aJ k0;have Y:Eq (w.heap.size≤X):=by show w.heap.size≤X;omega
 have Q:Eq (w.heap.size≤X+1):=by show w.heap.size≤X+1;omega
 refine (dy R P a len cap 48 _ (ab.o.below k0) (by omega) (by omega)).mono ?_;rintro e I ⟨z,rfl,hz,H,a8⟩;have U:=B0.grown a8 E;have T:=C0.grown a8 m;have F:Eq (w.grownBy I (some R)):=ae ag.o a8;clear a0 hX k0 B0 C0 a8 ag ab;have a2:X≠X+1:=by omega
 by_cases z0:z=0
 · subst z0;go_wp2_with fail
   have kc:Bl I (I.alloc (.cells ((([⟨#[]⟩,⟨#[65]⟩,⟨#[97,32,98]⟩,⟨#[97,98,99,100,101,102,103,104,105]⟩,⟨#[97,98,99,100,101,102,103,104]⟩,⟨#[48,47,57]⟩]:List ByteArray).map Value.string).toArray) 9)):=bZ;refine (uu n8 R (P+1) a len cap I.heap.size 0 6 6 _ (H.below kc) (by omega) (by omega) (by omega) (by have:=H.lt;omega) (by simp) (mM I 9 [⟨#[]⟩,⟨#[65]⟩,⟨#[97,32,98]⟩,⟨#[97,98,99,100,101,102,103,104,105]⟩,⟨#[97,98,99,100,101,102,103,104]⟩,⟨#[48,47,57]⟩] n8 ?_)).mono ?_
   · intro s hs;simp only [GZ,Hs,or_false] at hs;rcases hs with rfl | rfl | rfl | rfl | rfl | rfl <;> (unfold n8;decide)
   rintro e O ⟨v,rfl,hv,B,A⟩;have x:=(U.below kc).grown A E;have C:=(T.below kc).grown A m;have D:Eq (w.grownBy O (some R)):=ae (ae F.o (aJ kc)) A;clear U T kc A F;obtain ⟨L,u⟩:∃W,W=O.setCell ⟨X,0,none⟩ (.string v):=⟨_,rfl⟩;have y:=x.set0 (.string v);have f:=C.other (IX a2) 0 (.string v);have N:bh L R a len cap (P+1+1):=by rw [u];exact B.other E a1.o _ _
   have K:Eq (w.grownBy L (some R)):=by show w.grownBy L (some R);rw [u];exact aH D.o Y.o (aC _ _ _ _)
   have xx:=x.c0;have ff:=x.fr 0;have lx:=x.lt;rw [← u] at y f;go_upto_region 12 with fail
   rw [← u];clear u x C B D xx ff lx;have x0:=y.all;have y0:=f.c0;have y1:=f.c1;have y2:=f.c2;have Z:=f.c3;have y4:=f.c4;have f0:=f.fr 0;have f1:=f.fr 1;have f2:=f.fr 2;have f3:=f.fr 3;have f4:=f.fr 4;have lX:=y.lt;have lY:=f.lt;clear y;go_wp2;refine bodyPost_ret (v:=.agg #[.string v,iT q,iT d,.string t,iT n]) (by simp [results,Tryz.results156,go_sem,y0,y1,y2,Z,y4]) rfl ⟨v,t,q,d,n,P+1+1,rfl,⟨hv,J.o.2.1,J.o.2.2.1,J.o.2.2.2.1,J.o.2.2.2.2⟩,?_,by omega,?_⟩
   · exact ((((N.other m r.o _ _).other m r.o _ _).other m r.o _ _).other m r.o _ _).other m r.o _ _
   · exact aH K.o Q.o (ae (ae (ae (ae (aC _ _ _ _) (aC _ _ _ _)) (aC _ _ _ _)) (aC _ _ _ _)) (aC _ _ _ _))
 by_cases z1:z=1
 · subst z1;go_wp2_with fail
   have kc:Bl I (I.alloc (.cells ((([0,-1,100000,100001]:List Int).map iT).toArray) 3)):=bZ;refine (fo Wf R (P+1) a len cap I.heap.size 0 4 4 _ (H.below kc) (by omega) (by omega) (by omega) (by have:=H.lt;omega) (by simp) (eV I 3 [0,-1,100000,100001] Wf ?_)).mono ?_
   · intro s hs;simp only [GZ,Hs,or_false] at hs;rcases hs with rfl | rfl | rfl | rfl <;> (unfold Wf;decide)
   rintro e O ⟨v,rfl,hv,B,A⟩;have x:=(U.below kc).grown A E;have C:=(T.below kc).grown A m;have D:Eq (w.grownBy O (some R)):=ae (ae F.o (aJ kc)) A;clear U T kc A F;obtain ⟨L,u⟩:∃W,W=O.setCell ⟨X,1,none⟩ (iT v):=⟨_,rfl⟩;have y:=x.set1 (iT v);have f:=C.other (IX a2) 1 (iT v);have N:bh L R a len cap (P+1+1):=by rw [u];exact B.other E a1.o _ _
   have K:Eq (w.grownBy L (some R)):=by show w.grownBy L (some R);rw [u];exact aH D.o Y.o (aC _ _ _ _)
   have xx:=x.c1;have ff:=x.fr 1;have lx:=x.lt;rw [← u] at y f;go_upto_region 12 with fail
   rw [← u];clear u x C B D xx ff lx;have x0:=y.all;have y0:=f.c0;have y1:=f.c1;have y2:=f.c2;have Z:=f.c3;have y4:=f.c4;have f0:=f.fr 0;have f1:=f.fr 1;have f2:=f.fr 2;have f3:=f.fr 3;have f4:=f.fr 4;have lX:=y.lt;have lY:=f.lt;clear y;go_wp2;refine bodyPost_ret (v:=.agg #[.string k,iT v,iT d,.string t,iT n]) (by simp [results,Tryz.results156,go_sem,y0,y1,y2,Z,y4]) rfl ⟨k,t,v,d,n,P+1+1,rfl,⟨J.o.1,J.o.2.1,hv,J.o.2.2.2.1,J.o.2.2.2.2⟩,?_,by omega,?_⟩
   · exact ((((N.other m r.o _ _).other m r.o _ _).other m r.o _ _).other m r.o _ _).other m r.o _ _
   · exact aH K.o Q.o (ae (ae (ae (ae (aC _ _ _ _) (aC _ _ _ _)) (aC _ _ _ _)) (aC _ _ _ _)) (aC _ _ _ _))
 by_cases z2:z=2
 · subst z2;go_wp2_with fail
   have kc:Bl I (I.alloc (.cells ((([0,4,-1,1,2,3]:List Int).map iT).toArray) 3)):=bZ;refine (fo Wf R (P+1) a len cap I.heap.size 0 6 6 _ (H.below kc) (by omega) (by omega) (by omega) (by have:=H.lt;omega) (by simp) (eV I 3 [0,4,-1,1,2,3] Wf ?_)).mono ?_
   · intro s hs;simp only [GZ,Hs,or_false] at hs;rcases hs with rfl | rfl | rfl | rfl | rfl | rfl <;> (unfold Wf;decide)
   rintro e O ⟨v,rfl,hv,B,A⟩;have x:=(U.below kc).grown A E;have C:=(T.below kc).grown A m;have D:Eq (w.grownBy O (some R)):=ae (ae F.o (aJ kc)) A;clear U T kc A F;obtain ⟨L,u⟩:∃W,W=O.setCell ⟨X,2,none⟩ (iT v):=⟨_,rfl⟩;have y:=x.set2 (iT v);have f:=C.other (IX a2) 2 (iT v);have N:bh L R a len cap (P+1+1):=by rw [u];exact B.other E a1.o _ _
   have K:Eq (w.grownBy L (some R)):=by show w.grownBy L (some R);rw [u];exact aH D.o Y.o (aC _ _ _ _)
   have xx:=x.c2;have ff:=x.fr 2;have lx:=x.lt;rw [← u] at y f;go_upto_region 12 with fail
   rw [← u];clear u x C B D xx ff lx;have x0:=y.all;have y0:=f.c0;have y1:=f.c1;have y2:=f.c2;have Z:=f.c3;have y4:=f.c4;have f0:=f.fr 0;have f1:=f.fr 1;have f2:=f.fr 2;have f3:=f.fr 3;have f4:=f.fr 4;have lX:=y.lt;have lY:=f.lt;clear y;go_wp2;refine bodyPost_ret (v:=.agg #[.string k,iT q,iT v,.string t,iT n]) (by simp [results,Tryz.results156,go_sem,y0,y1,y2,Z,y4]) rfl ⟨k,t,q,v,n,P+1+1,rfl,⟨J.o.1,J.o.2.1,J.o.2.2.1,hv,J.o.2.2.2.2⟩,?_,by omega,?_⟩
   · exact ((((N.other m r.o _ _).other m r.o _ _).other m r.o _ _).other m r.o _ _).other m r.o _ _
   · exact aH K.o Q.o (ae (ae (ae (ae (aC _ _ _ _) (aC _ _ _ _)) (aC _ _ _ _)) (aC _ _ _ _)) (aC _ _ _ _))
 by_cases z3:z=3
 · subst z3;go_wp2_with fail
   have kc:Bl I (I.alloc (.cells ((([1000000,1000001,-1000001,9223372036854775807]:List Int).map iT).toArray) 3)):=bZ;refine (fo Wf R (P+1) a len cap I.heap.size 0 4 4 _ (H.below kc) (by omega) (by omega) (by omega) (by have:=H.lt;omega) (by simp) (eV I 3 [1000000,1000001,-1000001,9223372036854775807] Wf ?_)).mono ?_
   · intro s hs;simp only [GZ,Hs,or_false] at hs;rcases hs with rfl | rfl | rfl | rfl <;> (unfold Wf;decide)
   rintro e O ⟨v,rfl,hv,B,A⟩;have x:=(U.below kc).grown A E;have C:=(T.below kc).grown A m;have D:Eq (w.grownBy O (some R)):=ae (ae F.o (aJ kc)) A;clear U T kc A F;obtain ⟨L,u⟩:∃W,W=O.setCell ⟨X,4,none⟩ (iT v):=⟨_,rfl⟩;have y:=x.set4 (iT v);have f:=C.other (IX a2) 4 (iT v);have N:bh L R a len cap (P+1+1):=by rw [u];exact B.other E a1.o _ _
   have K:Eq (w.grownBy L (some R)):=by show w.grownBy L (some R);rw [u];exact aH D.o Y.o (aC _ _ _ _)
   have xx:=x.c4;have ff:=x.fr 4;have lx:=x.lt;rw [← u] at y f;go_upto_region 12 with fail
   rw [← u];clear u x C B D xx ff lx;have x0:=y.all;have y0:=f.c0;have y1:=f.c1;have y2:=f.c2;have Z:=f.c3;have y4:=f.c4;have f0:=f.fr 0;have f1:=f.fr 1;have f2:=f.fr 2;have f3:=f.fr 3;have f4:=f.fr 4;have lX:=y.lt;have lY:=f.lt;clear y;go_wp2;refine bodyPost_ret (v:=.agg #[.string k,iT q,iT d,.string t,iT v]) (by simp [results,Tryz.results156,go_sem,y0,y1,y2,Z,y4]) rfl ⟨k,t,q,d,v,P+1+1,rfl,⟨J.o.1,J.o.2.1,J.o.2.2.1,J.o.2.2.2.1,hv⟩,?_,by omega,?_⟩
   · exact ((((N.other m r.o _ _).other m r.o _ _).other m r.o _ _).other m r.o _ _).other m r.o _ _
   · exact aH K.o Q.o (ae (ae (ae (ae (aC _ _ _ _) (aC _ _ _ _)) (aC _ _ _ _)) (aC _ _ _ _)) (aC _ _ _ _))
 by_cases z4:z=4
 · subst z4;go_wp2_with fail
   refine (v6 ⟨#[116]⟩ 60 _ rfl (by omega) (by omega)).mono ?_;rintro e w' ⟨s1,rfl,ad,hw⟩;have a9:=hw.symm;subst a9;go_wp2_with fail
   refine (v6 ⟨#[116]⟩ 61 _ rfl (by omega) (by omega)).mono ?_;rintro e w' ⟨s2,rfl,af,hw⟩;have a9:=hw.symm;subst a9;have aj:Eq (n8 s1):=ad;have al:Eq (n8 s2):=af;clear ad af;go_wp2_with fail
   have kc:Bl I (I.alloc (.cells ((([⟨#[113]⟩,s1,s2]:List ByteArray).map Value.string).toArray) 9)):=bZ;refine (uu n8 R (P+1) a len cap I.heap.size 0 3 3 _ (H.below kc) (by omega) (by omega) (by omega) (by have:=H.lt;omega) (by simp) (mM I 9 [⟨#[113]⟩,s1,s2] n8 ?_)).mono ?_
   · intro s hs;simp only [GZ,Hs,or_false] at hs;rcases hs with rfl | rfl | rfl
     · unfold n8;decide
     · exact aj.o
     · exact al.o
   rintro e O ⟨v,rfl,hv,B,A⟩;have x:=(U.below kc).grown A E;have C:=(T.below kc).grown A m;have D:Eq (w.grownBy O (some R)):=ae (ae F.o (aJ kc)) A;clear U T kc A F;obtain ⟨L,u⟩:∃W,W=O.setCell ⟨X,3,none⟩ (.string v):=⟨_,rfl⟩;have y:=x.set3 (.string v);have f:=C.other (IX a2) 3 (.string v);have N:bh L R a len cap (P+1+1):=by rw [u];exact B.other E a1.o _ _
   have K:Eq (w.grownBy L (some R)):=by show w.grownBy L (some R);rw [u];exact aH D.o Y.o (aC _ _ _ _)
   have xx:=x.c3;have ff:=x.fr 3;have lx:=x.lt;rw [← u] at y f;go_upto_region 12 with fail
   rw [← u];clear u x C B D xx ff lx;have x0:=y.all;have y0:=f.c0;have y1:=f.c1;have y2:=f.c2;have Z:=f.c3;have y4:=f.c4;have f0:=f.fr 0;have f1:=f.fr 1;have f2:=f.fr 2;have f3:=f.fr 3;have f4:=f.fr 4;have lX:=y.lt;have lY:=f.lt;clear y;go_wp2;refine bodyPost_ret (v:=.agg #[.string k,iT q,iT d,.string v,iT n]) (by simp [results,Tryz.results156,go_sem,y0,y1,y2,Z,y4]) rfl ⟨k,v,q,d,n,P+1+1,rfl,⟨J.o.1,hv,J.o.2.2.1,J.o.2.2.2.1,J.o.2.2.2.2⟩,?_,by omega,?_⟩
   · exact ((((N.other m r.o _ _).other m r.o _ _).other m r.o _ _).other m r.o _ _).other m r.o _ _
   · exact aH K.o Q.o (ae (ae (ae (ae (aC _ _ _ _) (aC _ _ _ _)) (aC _ _ _ _)) (aC _ _ _ _)) (aC _ _ _ _))
 have e0:(z == 0)=false:=by simpa using z0
 have e1:(z == 1)=false:=by simpa using z1
 have e2:(z == 2)=false:=by simpa using z2
 have e3:(z == 3)=false:=by simpa using z3
 have e4:(z == 4)=false:=by simpa using z4
 have y:=U;have f:=T;clear U T;have x0:=y.all;have y0:=f.c0;have y1:=f.c1;have y2:=f.c2;have Z:=f.c3;have y4:=f.c4;have f0:=f.fr 0;have f1:=f.fr 1;have f2:=f.fr 2;have f3:=f.fr 3;have f4:=f.fr 4;have lX:=y.lt;have lY:=f.lt;clear y;go_wp2;refine bodyPost_ret (v:=.agg #[.string k,iT q,iT d,.string t,iT n]) (by simp [results,Tryz.results156,go_sem,y0,y1,y2,Z,y4]) rfl ⟨k,t,q,d,n,P+1,rfl,J.o,?_,by omega,?_⟩
 · exact ((((H.other m r.o _ _).other m r.o _ _).other m r.o _ _).other m r.o _ _).other m r.o _ _
 · exact aH F.o Q.o (ae (ae (ae (ae (aC _ _ _ _) (aC _ _ _ _)) (aC _ _ _ _)) (aC _ _ _ _)) (aC _ _ _ _))
theorem r6 (w:World) (s:ByteArray) (Q d:Int) (t:ByteArray) (m:Int):∀j u,[Value.string s,iT Q,iT d,.string t,iT m][j]?=some u→(w.alloc (.cells #[.string s,iT Q,iT d,.string t,iT m] 50)).cell? ((⟨w.heap.size,0,none⟩:Addr).add j)=some u:=by
 intro j u b;rw [G6];match j,b with
 | 0,b=>simp at b;subst b;simp
 | 1,b=>simp at b;subst b;simp
 | 2,b=>simp at b;subst b;simp
 | 3,b=>simp at b;subst b;simp
 | 4,b=>simp at b;subst b;simp
theorem mS {w w':World} {base e size n:Nat} {v:Value} {xs:List Value} (h:w.ownsRow base e size v n xs) (hb:Bl w w'):w'.ownsRow base e size v n xs:=h.kept (row:=none) ⟨hb.os,hb.tape,hb.output,hb.size,fun k hk _=>hb.block k hk⟩ (by
 cases v.ownBlock with
 | none=>exact .inl rfl
 | some x=>exact .inr (by simp))
theorem ur {n:Nat} {v:Value} {b:Addr} {f c0 m:Nat} (h:w.ownsRow base e size v n xs) (hn:v=nZ ↔ Value.slice (some b) f c0=nZ∧m=0):∃g c,v=sL g n c :=
 qy h (fun e=>by cases (hn.1 e).1)
def FY:Value→Nat
 | .slice _ n _=>n
 | _=>0
def nU (M:List ac):Prop:=∀l ∈ M,n8 l.1∧n8 l.2.2.2.1
theorem nU.snoc {l:ac} (h:nU M) (hk:n8 l.1) (b:n8 l.2.2.2.1):nU (M++[l]):=by
 intro x hx;rcases GX.1 hx with h1 | h1
 · exact h x h1
 · rw [G5] at h1;subst h1;exact ⟨hk,b⟩
theorem uR {n:Int} (h:jX k t q d n):d9 (k,q,d,t,n) :=
 ⟨by have:=h.1.1;unfold maxLen;show k.size≤_;omega,h.2.2.1,h.2.2.2.1,by have:=h.2.1.1;unfold maxLen;show t.size≤_;omega,h.2.2.2.2⟩
def GD (R:Nat) (a:Option Addr) (len cap P:Nat) (w:World) (e:Ending) (w':World):Prop :=
 ∃(g n c P':Nat) (M:List ac),e=.returned (sL g n c)∧ag w' w.heap.size g n c M∧nU M∧n≤13∧bh w' R a len cap P'∧P'≤P+200∧w.grownBy w' (some R)
theorem bh.grownO (h:bh w R a len cap P) (hg:w.grownBy w' (some g)) (hR:R≠g) (hB:∀b f,a=some ⟨b,f,none⟩→0<len→b≠g):bh w' R a len cap P where
 c0:=(au hg (x:=⟨R,0,none⟩) h.lt hR).trans h.c0
 c1:=(au hg (x:=⟨R,1,none⟩) h.lt hR).trans h.c1
 f1:=(IT (hg.block R h.lt (fun e=>hR (by cases e;rfl)))).trans h.f1
 few:=h.few
 two:=fun o=>(au hg (x:=⟨R,o+2,none⟩) h.lt hR).trans (h.two o)
 bytes:=by
  rcases h.bytes with h0 | ⟨b,f,rfl,hb,m,hc⟩
  · exact Or.inl h0
  · by_cases h0:len=0
    · exact Or.inl h0
    · refine Or.inr ⟨b,f,rfl,hb,E' m hg.size,fun i hi=>?_⟩;obtain ⟨z,hz,n⟩:=hc i hi;exact ⟨z,hz,(au hg (x:=⟨b,f+i,none⟩) m (hB b f rfl (by omega))).trans n⟩
theorem bh.low (h:bh w R a len cap P):∀b f,a=some ⟨b,f,none⟩→0<len→b<w.heap.size:=by
 intro b f e hl;rcases h.bytes with h0 | ⟨b',n,o,hb,m,hc⟩
 · omega
 · rw [e] at o;cases o;exact m
theorem C9 {n:Nat} {m v:Int} (h:ag w base g n c ((k,q,d,t,m) :: M)) (hv:(Lit.int .i64 v).wf=true):ag (w.setCell ⟨g,1,none⟩ (iT v)) base g n c ((k,v,d,t,m) :: M):=by
 have hw:=h.ents (k,q,d,t,m) (by simp);exact ⟨(h.owns.stored 1 (iT v)).1,h.len,fun l hl=>by
  rcases GZ.1 hl with rfl | h1
  · exact ⟨hw.1,hv,hw.2.2⟩
  · exact h.ents l (by simp [h1])⟩
theorem ym {n:Nat} {s f:ByteArray} {m r b o:Int} (h:ag w base g n c ((k,q,d,t,m) :: M)) (hv:d9 (s,r,b,f,o)):ag (((((w.setCell ⟨g,0,none⟩ (.string s)).setCell ⟨g,1,none⟩ (iT r)).setCell ⟨g,2,none⟩ (iT b)).setCell ⟨g,3,none⟩ (.string f)).setCell ⟨g,4,none⟩ (iT o)) base g n c ((s,r,b,f,o) :: M):=by
 have h0:=(h.owns.stored 0 (.string s)).1;have h1:=(h0.stored 1 (iT r)).1;have h2:=(h1.stored 2 (iT b)).1;have h3:=(h2.stored 3 (.string f)).1;have h4:=(h3.stored 4 (iT o)).1;exact ⟨h4,h.len,fun l hl=>by
  rcases GZ.1 hl with rfl | hm
  · exact hv
  · exact h.ents l (by simp [hm])⟩
theorem pn (R P:Nat) (a:Option Addr) (len cap:Nat) (w:World) (h:bh w R a len cap P) (hP:P<90000) :
 Calls Tryz.prog 95 #[.pointer (pT R)] w fun e w'=>GD R a len cap P w e w':=by
 obtain ⟨i0,hi,b6,bo,bc⟩:=info_parts Tryz.infoEnt;have ai:Eq (∀b O,a=some ⟨b,O,none⟩→0<len→b<w.heap.size):=h.low;have cn:=h.lt;obtain ⟨W0,ay⟩:∃W,W=w.alloc (.cells #[] 50):=⟨_,rfl⟩;have b5:Eq (W0.ownsRow w.heap.size 50 5 (sL (w.heap.size) 0 0) 0 (aF [])):=by
  have:=Hi (base:=w.heap.size) (e:=50) (size:=5) w #[] 0 (GL _) (by simp) (by simp);show World.ownsRow _ _ _ _ _ _ _
  rw [ay];simpa [aF] using this
 have Q:Bl w W0:=by rw [ay];exact bZ
 have R0:bh W0 R a len cap P:=h.below Q;have G0:w.grownBy W0 (some R):=aJ Q;clear h;go_enter Tryz.func95,Tryz.ntmps95
 go_wp2_with fail
 rw [← ay];clear ay Q;refine (dy R P a len cap 5 _ R0 (by omega) (by omega)).mono ?_;rintro e w1 ⟨q,rfl,hq,bv,aO⟩;have bs:0≤q∧q<5:=⟨hq.1,hq.2 (by omega)⟩;obtain ⟨N,rfl⟩:=Il bs.1;have ap:w1.ownsRow w.heap.size 50 5 (sL (w.heap.size) 0 0) 0 (aF []):=b5.o.kept aO (.inr (by simp [Value.ownBlock];omega));have G1:=ae G0 aO;clear hq aO b5 R0 G0;have bA:IntKind.i64.wrap (1+(N:Int))=1+(N:Int):=by rw [G4];unfold wrap64;omega
 have b9:Eq (bh w1 R a len cap (P+1)):=bv;have bl:Eq (w1.ownsRow w.heap.size 50 5 (sL (w.heap.size) 0 0) 0 (aF [])):=ap;have bt:Eq (w.grownBy w1 (some R)):=G1;clear bv ap G1;go_wp2;go_loopw [3,4] (fun vv iv wr=>∃(i n g c H:Nat) (M:List ac),iv=iT (i:Int)∧vv=sL g n c∧n+i=1+N∧H≤P+1+5*n∧bh wr R a len cap H∧wr.ownsRow w.heap.size 50 5 (sL g n c) n (aF M)∧M.length=n∧(∀l ∈ M,d9 l)∧nU M∧w.grownBy wr (some R)) (fun _ iv _=>(intOf iv).toNat)
 case atStart=>exact ⟨1+N,0,_,0,P+1,[],by simp,rfl,by omega,by omega,b9.o,bl.o,rfl,by simp,fun l hl=>by simp at hl,bt.o⟩
 case round =>
  clear b9 bl bt;obtain ⟨i,n,g,c,H,M,rfl,rfl,bN,bp,ao,hv,am,hw,al,hg⟩:=hrel;have U:Eq (bh wr R a len cap H):=ao;have HV:Eq (wr.ownsRow w.heap.size 50 5 (sL g n c) n (aF M)):=hv;have Y:Eq (M.length=n):=am;have HW:Eq (∀l ∈ M,d9 l):=hw;have K:Eq (nU M):=al;have HG:Eq (w.grownBy wr (some R)):=hg;clear ao hv am hw al hg;by_cases bE:0<i
  · have aD:(i:Int) > 0:=by omega
    have cl:IntKind.i64.wrap ((i:Int) - 1)=(i:Int) - 1:=by rw [G4];unfold wrap64;omega
    go_wp2_with fail
    refine (iN R H a len cap 0 _ U.o (by omega) (by decide)).mono ?_;rintro e D ⟨m,A,f,d,nn,P2,rfl,C,an,bQ,ab⟩;have a3:Eq (jX m A f d nn):=C;have aq:Eq (D.ownsRow w.heap.size 50 5 (sL g n c) n (aF M)):=HV.o.kept ab (.inr (by have:=(HV.o.lt g rfl).1;simp [Value.ownBlock];omega));have a7:Eq (w.grownBy D (some R)):=ae HG.o ab;have ak:Eq (bh D R a len cap P2):=an;have b7:=a7.o.size;clear C an ab HV HG U;have aN:Eq (∀j u,[Value.string m,iT f,iT d,.string A,iT nn][j]?=some u→(D.alloc (.cells #[.string m,iT f,iT d,.string A,iT nn] 50)).cell? ((⟨D.heap.size,0,none⟩:Addr).add j)=some u):=r6 D m f d A nn;have ka:Bl D (D.alloc (.cells #[.string m,iT f,iT d,.string A,iT nn] 50)):=bZ;have ar:Eq ((D.alloc (.cells #[.string m,iT f,iT d,.string A,iT nn] 50)).ownsRow w.heap.size 50 5 (sL g n c) n (aF M)):=mS aq.o ka;have a5:Eq (w.grownBy (D.alloc (.cells #[.string m,iT f,iT d,.string A,iT nn] 50)) (some R)):=ae a7.o (aJ ka);have au:Eq (bh (D.alloc (.cells #[.string m,iT f,iT d,.string A,iT nn] 50)) R a len cap P2):=ak.o.below ka;have B:Eq (w.heap.size≤g):=(ar.o.lt g rfl).1;have aX:Eq (w.heap.size≤(D.alloc (.cells #[.string m,iT f,iT d,.string A,iT nn] 50)).heap.size):=a5.o.size;clear ka aq a7 ak;go_wp2_with (at_builtin;refine wpList_append_own _ rfl _ _ 28 rfl w.heap.size 50 i0 _ 5 56 Tryz.underlying28 hi b6 bo bc rfl (by decide) _ _ _ rfl ar.o ⟨D.heap.size,0,none⟩ 1 1 [.string m,iT f,iT d,.string A,iT nn] rfl rfl aN.o (by intro u hu;simp at hu;rcases hu with rfl | rfl | rfl | rfl | rfl <;> rfl) (by unfold maxLen;omega) (by omega) aX.o ?_;intro v2 w4 I T a4;obtain ⟨g2,c2,rfl⟩:=ur I a4)
    go_roundw
    case rel =>
     have aj:(D.alloc (.cells #[.string m,iT f,iT d,.string A,iT nn] 50)).grownBy w4 (some g):=T;have aV:(M++[((m,f,d,A,nn):ac)]).length=n+1:=by rw [GO,Y.o];rfl
     have aL:∀l ∈ M++[((m,f,d,A,nn):ac)],d9 l:=by
      intro l hl;rcases GX.1 hl with h | h
      · exact HW.o l h
      · rw [G5] at h;subst h;exact uR a3.o
     have aS:nU (M++[((m,f,d,A,nn):ac)]):=K.o.snoc a3.o.1 a3.o.2.1;have aR:w4.ownsRow w.heap.size 50 5 (sL g2 (n+1) c2) (n+1) (aF (M++[((m,f,d,A,nn):ac)])):=by rw [bC];exact I
     have aU:w.grownBy w4 (some R):=aH a5.o B.o aj;have aY:bh w4 R a len cap P2:=au.o.grownO aj (by have:=B.o;omega) (fun b O e hl=>by have h1:=ai.o b O e hl;have:=B.o;omega);exact ⟨i - 1,n+1,g2,c2,P2,_,by rw [show ((i - 1:Nat):Int)=(i:Int) - 1 by omega],rfl,by omega,by omega,aY,aR,aV,aL,aS,aU⟩
    case measure=>simp [intOf];omega
  · have aD:¬(i:Int) > 0:=by omega
    have bI:n≤5:=by omega
    have aG:1≤n:=by omega
    clear bN;go_wp2_with fail
    refine (dy R H a len cap 40 _ U.o (by omega) (by omega)).mono ?_;rintro e L ⟨q,rfl,hq,bk,aZ⟩;have aa:Eq (bh L R a len cap (H+1)):=bk;have E:Eq (ag L w.heap.size g n c M):=⟨HV.o.kept aZ (.inr (by have:=(HV.o.lt g rfl).1;simp [Value.ownBlock];omega)),Y.o,HW.o⟩;have a0:Eq (w.grownBy L (some R)):=ae HG.o aZ;have b1:0≤q∧q<40:=⟨hq.1,hq.2 (by omega)⟩;have B:Eq (w.heap.size≤g):=E.o.lt.1;clear hq bk aZ U HV HG;by_cases z0:q=0
    · subst z0;have bL:Eq (ag (L.alloc (.cells #[] 50)) w.heap.size L.heap.size 0 0 []):=by
       have:=Hi (base:=w.heap.size) (e:=50) (size:=5) L #[] 0 a0.o.size (by simp) (by simp);exact ⟨by simpa [aF] using this,rfl,by simp⟩
      have ka:Bl L (L.alloc (.cells #[] 50)):=bZ;have au:Eq (bh (L.alloc (.cells #[] 50)) R a len cap (H+1)):=aa.o.below ka;have a5:Eq (w.grownBy (L.alloc (.cells #[] 50)) (some R)):=ae a0.o (aJ ka);clear ka;go_wp2;go_ret;exact ⟨_,0,0,H+1,[],rfl,bL.o,fun l hl=>by simp at hl,by omega,au.o,by omega,a5.o⟩
    have b0:(q == 0)=false:=by simpa using z0
    obtain ⟨l0,M',hM⟩:∃l0 M',M=l0 :: M':=by
     cases M with
     | nil=>have:=Y.o;simp at this;omega
     | cons x r=>exact ⟨x,r,rfl⟩
    obtain ⟨Q,q0,d0,t0,m0⟩:=l0;subst hM;have az:Eq (jX Q t0 q0 d0 m0):=⟨(K.o (Q,q0,d0,t0,m0) (by simp)).1,(K.o (Q,q0,d0,t0,m0) (by simp)).2,(HW.o (Q,q0,d0,t0,m0) (by simp)).2.1,(HW.o (Q,q0,d0,t0,m0) (by simp)).2.2.1,(HW.o (Q,q0,d0,t0,m0) (by simp)).2.2.2.2⟩;have aK:Eq (nU M'):=fun l hl=>K.o l (by simp [hl])
    have a1:Eq (∀b O,a=some ⟨b,O,none⟩→0<len→b≠g):=fun b O e hl=>by have h1:=ai.o b O e hl;have:=B.o;omega
    have J:g≠R:=by have:=B.o;omega
    have be:R≠g:=by have:=B.o;omega
    by_cases z1:q=1
    · subst z1;go_wp2_with fail
      have kc:Bl L (L.alloc (.cells ((([1,-1]:List Int).map iT).toArray) 3)):=bZ;refine (fo Wf R (H+1) a len cap L.heap.size 0 2 2 _ (aa.o.below kc) (by omega) (by omega) (by omega) (by have:=aa.o.lt;omega) (by simp) (eV L 3 [1,-1] Wf ?_)).mono ?_
      · intro s hs;simp only [GZ,Hs,or_false] at hs;rcases hs with rfl | rfl <;> (unfold Wf;decide)
      rintro e X ⟨v,rfl,hv,af,a8⟩;have ah:Eq (ag X w.heap.size g n c ((Q,q0,d0,t0,m0) :: M')):=(E.o.below kc).grown a8 (by simpa using J);have aE:Eq (w.grownBy X (some R)):=ae (ae a0.o (aJ kc)) a8;have b2:Eq (bh X R a len cap (H+1+1)):=af;have aQ:Eq (ag (X.setCell ⟨g,1,none⟩ (iT v)) w.heap.size g n c ((Q,v,d0,t0,m0) :: M')):=C9 ah.o hv;have aP:Eq (bh (X.setCell ⟨g,1,none⟩ (iT v)) R a len cap (H+1+1)):=af.other J a1.o _ _;have aI:Eq (w.grownBy (X.setCell ⟨g,1,none⟩ (iT v)) (some R)):=aH aE.o B.o (aC _ _ _ _);have c1:X.cell? ⟨g,1,none⟩=some (iT q0):=(ah.o.owns.cellAt 1 (by omega)).trans rfl;have f1:X.frozen? ⟨g,1,none⟩=false:=ah.o.owns.frozenAt 1;have aM:=ah.o.lt.2;clear kc af a8;go_wp2;go_ret;exact ⟨g,n,c,H+1+1,_,rfl,aQ.o,fun l hl=>(by
       rcases GZ.1 hl with rfl | h1
       · exact ⟨az.o.1,az.o.2.1⟩
       · exact aK.o l h1),by omega,aP.o,by omega,aI.o⟩
    have bb:(q == 1)=false:=by simpa using z1
    by_cases z2:q=2
    · subst z2;have c0:L.cell? ⟨g,0,none⟩=some (.string Q):=(E.o.owns.cellAt 0 (by omega)).trans rfl;have c1:L.cell? ⟨g,1,none⟩=some (iT q0):=(E.o.owns.cellAt 1 (by omega)).trans rfl;have c2:L.cell? ⟨g,2,none⟩=some (iT d0):=(E.o.owns.cellAt 2 (by omega)).trans rfl;have c3:L.cell? ⟨g,3,none⟩=some (.string t0):=(E.o.owns.cellAt 3 (by omega)).trans rfl;have c4:L.cell? ⟨g,4,none⟩=some (iT m0):=(E.o.owns.cellAt 4 (by omega)).trans rfl;have aM:=E.o.lt.2;go_wp2_with fail
      clear c0 c1 c2 c3 c4 aM;refine (gH R (H+1) a len cap Q t0 q0 d0 m0 _ aa.o (by omega) az.o).mono ?_;rintro e X ⟨k6,t6,q6,d6,m6,P6,rfl,C,hR,ci,hg⟩;have bM:Eq (jX k6 t6 q6 d6 m6):=C;have b2:Eq (bh X R a len cap P6):=hR;have ah:Eq (ag X w.heap.size g n c ((Q,q0,d0,t0,m0) :: M')):=E.o.grown hg (by simpa using J);have aE:Eq (w.grownBy X (some R)):=ae a0.o hg;clear C hR hg;go_wp2_with fail
      refine (gH R (P6) a len cap k6 t6 q6 d6 m6 _ b2.o (by omega) bM.o).mono ?_;rintro e w7 ⟨k7,t7,q7,d7,m7,P7,rfl,C,hR,cg,hg⟩;have bH:Eq (jX k7 t7 q7 d7 m7):=C;have aP:Eq (bh w7 R a len cap P7):=hR;have aQ:Eq (ag w7 w.heap.size g n c ((Q,q0,d0,t0,m0) :: M')):=ah.o.grown hg (by simpa using J);have aI:Eq (w.grownBy w7 (some R)):=ae aE.o hg;clear C hR hg;go_wp2_with fail
      refine (gH R (P7) a len cap k7 t7 q7 d7 m7 _ aP.o (by omega) bH.o).mono ?_;rintro e Z ⟨k8,t8,q8,d8,m8,P8,rfl,C,hR,cc,hg⟩;have aT:Eq (jX k8 t8 q8 d8 m8):=C;have bS:Eq (bh Z R a len cap P8):=hR;have F:Eq (ag Z w.heap.size g n c ((Q,q0,d0,t0,m0) :: M')):=aQ.o.grown hg (by simpa using J);have bD:Eq (w.grownBy Z (some R)):=ae aI.o hg;clear C hR hg;have c0:Z.cell? ⟨g,0,none⟩=some (.string Q):=(F.o.owns.cellAt 0 (by omega)).trans rfl;have c1:Z.cell? ⟨g,1,none⟩=some (iT q0):=(F.o.owns.cellAt 1 (by omega)).trans rfl;have c2:Z.cell? ⟨g,2,none⟩=some (iT d0):=(F.o.owns.cellAt 2 (by omega)).trans rfl;have c3:Z.cell? ⟨g,3,none⟩=some (.string t0):=(F.o.owns.cellAt 3 (by omega)).trans rfl;have c4:Z.cell? ⟨g,4,none⟩=some (iT m0):=(F.o.owns.cellAt 4 (by omega)).trans rfl;have f0:Z.frozen? ⟨g,0,none⟩=false:=F.o.owns.frozenAt 0;have f1:Z.frozen? ⟨g,1,none⟩=false:=F.o.owns.frozenAt 1;have f2:Z.frozen? ⟨g,2,none⟩=false:=F.o.owns.frozenAt 2;have f3:Z.frozen? ⟨g,3,none⟩=false:=F.o.owns.frozenAt 3;have f4:Z.frozen? ⟨g,4,none⟩=false:=F.o.owns.frozenAt 4;have aM:=F.o.lt.2;have bz:Eq (ag (((((Z.setCell ⟨g,0,none⟩ (.string k8)).setCell ⟨g,1,none⟩ (iT q8)).setCell ⟨g,2,none⟩ (iT d8)).setCell ⟨g,3,none⟩ (.string t8)).setCell ⟨g,4,none⟩ (iT m8)) w.heap.size g n c ((k8,q8,d8,t8,m8) :: M')):=ym F.o (uR aT.o);have bF:Eq (bh (((((Z.setCell ⟨g,0,none⟩ (.string k8)).setCell ⟨g,1,none⟩ (iT q8)).setCell ⟨g,2,none⟩ (iT d8)).setCell ⟨g,3,none⟩ (.string t8)).setCell ⟨g,4,none⟩ (iT m8)) R a len cap P8):=((((bS.o.other J a1.o _ _).other J a1.o _ _).other J a1.o _ _).other J a1.o _ _).other J a1.o _ _;have bP:Eq (w.grownBy (((((Z.setCell ⟨g,0,none⟩ (.string k8)).setCell ⟨g,1,none⟩ (iT q8)).setCell ⟨g,2,none⟩ (iT d8)).setCell ⟨g,3,none⟩ (.string t8)).setCell ⟨g,4,none⟩ (iT m8)) (some R)):=aH bD.o B.o (ae (ae (ae (ae (aC _ _ _ _) (aC _ _ _ _)) (aC _ _ _ _)) (aC _ _ _ _)) (aC _ _ _ _));go_wp2;go_ret;exact ⟨g,n,c,P8,_,rfl,bz.o,fun l hl=>(by
       rcases GZ.1 hl with rfl | h1
       · exact ⟨aT.o.1,aT.o.2.1⟩
       · exact aK.o l h1),by omega,bF.o,by omega,bP.o⟩
    have bq:(q == 2)=false:=by simpa using z2
    by_cases z3:q=3
    · subst z3;have bf:=E.o.owns;have bi:Eq (L.ownsRow w.heap.size 50 5 (sL g n c) n (aF ((Q,q0,d0,t0,m0) :: M'))):=E.o.owns;have b8:Eq (H≤P+26):=by show _≤_;omega
      clear bf;go_wp2;go_loopw [3] (fun vv wr=>∃(n g c H:Nat) (M:List ac),vv=sL g n c∧1≤n∧n≤13∧H≤P+27+6*n∧bh wr R a len cap H∧wr.ownsRow w.heap.size 50 5 (sL g n c) n (aF M)∧M.length=n∧(∀l ∈ M,d9 l)∧nU M∧w.grownBy wr (some R)) (fun vv _=>14 - FY vv)
      case atStart=>exact ⟨n,g,c,H+1,_,rfl,aG,by omega,by have:=b8.o;omega,aa.o,bi.o,Y.o,HW.o,K.o,a0.o⟩
      case round =>
       clear E aa a0 bi Y HW K az aK a1 B J be aG bI b8 z0 z1 z2 b0 bb bq bp aD bE b1 bs bA;obtain ⟨n,g,c,H,M,rfl,aG,bj,bp,ao,hv,am,hw,al,hg⟩:=hrel;have aW:Eq (wr.ownsRow w.heap.size 50 5 (sL g n c) n (aF M)):=hv;have Y:Eq (M.length=n):=am;have HW:Eq (∀l ∈ M,d9 l):=hw;have K:Eq (nU M):=al;have bg:Eq (w.grownBy wr (some R)):=hg;clear hv am hw al hg;go_wp2_with fail
       refine (dy R H a len cap 2 _ ao (by omega) (by omega)).mono ?_;rintro e X ⟨y,rfl,hy,af,a8⟩;have ck:0≤y∧y<2:=⟨hy.1,hy.2 (by omega)⟩;have U:Eq (bh X R a len cap (H+1)):=af;have HV:Eq (X.ownsRow w.heap.size 50 5 (sL g n c) n (aF M)):=aW.o.kept a8 (.inr (by have:=(aW.o.lt g rfl).1;simp [Value.ownBlock];omega));have HG:Eq (w.grownBy X (some R)):=ae bg.o a8;have cj:IntKind.i64.wrap (12+y)=12+y:=by rw [G4];unfold wrap64;omega
       clear hy af a8 aW bg ao;by_cases bR:(n:Int)<12+y
       · go_wp2_with fail
         refine (iN R (H+1) a len cap 0 _ U.o (by omega) (by decide)).mono ?_;rintro e D ⟨m,A,f,d,nn,P2,rfl,C,an,bQ,ab⟩;have a3:Eq (jX m A f d nn):=C;have aq:Eq (D.ownsRow w.heap.size 50 5 (sL g n c) n (aF M)):=HV.o.kept ab (.inr (by have:=(HV.o.lt g rfl).1;simp [Value.ownBlock];omega));have a7:Eq (w.grownBy D (some R)):=ae HG.o ab;have ak:Eq (bh D R a len cap P2):=an;have b7:=a7.o.size;clear C an ab HV HG U;have aN:Eq (∀j u,[Value.string m,iT f,iT d,.string A,iT nn][j]?=some u→(D.alloc (.cells #[.string m,iT f,iT d,.string A,iT nn] 50)).cell? ((⟨D.heap.size,0,none⟩:Addr).add j)=some u):=r6 D m f d A nn;have ka:Bl D (D.alloc (.cells #[.string m,iT f,iT d,.string A,iT nn] 50)):=bZ;have ar:Eq ((D.alloc (.cells #[.string m,iT f,iT d,.string A,iT nn] 50)).ownsRow w.heap.size 50 5 (sL g n c) n (aF M)):=mS aq.o ka;have a5:Eq (w.grownBy (D.alloc (.cells #[.string m,iT f,iT d,.string A,iT nn] 50)) (some R)):=ae a7.o (aJ ka);have au:Eq (bh (D.alloc (.cells #[.string m,iT f,iT d,.string A,iT nn] 50)) R a len cap P2):=ak.o.below ka;have B:Eq (w.heap.size≤g):=(ar.o.lt g rfl).1;have aX:Eq (w.heap.size≤(D.alloc (.cells #[.string m,iT f,iT d,.string A,iT nn] 50)).heap.size):=a5.o.size;clear ka aq a7 ak;go_wp2_with (at_builtin;refine wpList_append_own _ rfl _ _ 28 rfl w.heap.size 50 i0 _ 5 56 Tryz.underlying28 hi b6 bo bc rfl (by decide) _ _ _ rfl ar.o ⟨D.heap.size,0,none⟩ 1 1 [.string m,iT f,iT d,.string A,iT nn] rfl rfl aN.o (by intro u hu;simp at hu;rcases hu with rfl | rfl | rfl | rfl | rfl <;> rfl) (by unfold maxLen;omega) (by omega) aX.o ?_;intro v2 w4 I T a4;obtain ⟨g2,c2,rfl⟩:=ur I a4)
         go_roundw
         case rel =>
          have aj:(D.alloc (.cells #[.string m,iT f,iT d,.string A,iT nn] 50)).grownBy w4 (some g):=T;have aV:(M++[((m,f,d,A,nn):ac)]).length=n+1:=by rw [GO,Y.o];rfl
          have aL:∀l ∈ M++[((m,f,d,A,nn):ac)],d9 l:=by
           intro l hl;rcases GX.1 hl with h | h
           · exact HW.o l h
           · rw [G5] at h;subst h;exact uR a3.o
          have aS:nU (M++[((m,f,d,A,nn):ac)]):=K.o.snoc a3.o.1 a3.o.2.1;have aR:w4.ownsRow w.heap.size 50 5 (sL g2 (n+1) c2) (n+1) (aF (M++[((m,f,d,A,nn):ac)])):=by rw [bC];exact I
          have aU:w.grownBy w4 (some R):=aH a5.o B.o aj;have aY:bh w4 R a len cap P2:=au.o.grownO aj (by have:=B.o;omega) (fun b O e hl=>by have h1:=ai.o b O e hl;have:=B.o;omega);exact ⟨n+1,g2,c2,P2,_,rfl,by omega,by omega,by omega,aY,aR,aV,aL,aS,aU⟩
         case measure=>simp [FY];omega
       · have ce:¬(n:Int)<12+y:=bR;have bK:Eq (ag X w.heap.size g n c M):=⟨HV.o,Y.o,HW.o⟩;go_wp2;go_ret;exact ⟨g,n,c,H+1,M,rfl,bK.o,K.o,bj,U.o,by omega,HG.o⟩
    have c7:(q == 3)=false:=by simpa using z3
    go_wp2;go_ret;exact ⟨g,n,c,H+1,_,rfl,E.o,K.o,by omega,aa.o,by omega,a0.o⟩
def ud (a:Option Addr) (len R:Nat):Prop:=len=0∨∀b off,a=some ⟨b,off,none⟩→b<R
theorem bh.grown {row:Option Nat} (h:bh w R a len cap P) (hg:w.grownBy w' row) (hlow:ud a len R) (hR:∀k,row=some k→R<k):bh w' R a len cap P where
 c0:=hg.cell h.c0 (fun e=>by have:=hR _ e.symm;simp at this)
 c1:=hg.cell h.c1 (fun e=>by have:=hR _ e.symm;simp at this)
 f1:=(bU hg (x:=⟨R,1,none⟩) h.lt (fun e=>by have:=hR _ e.symm;simp at this)).trans h.f1
 few:=h.few
 two:=fun o=>(Hz (a:=⟨R,o+2,none⟩) (hg.block R h.lt (fun e=>by have:=hR _ e.symm;omega))).trans (h.two o)
 bytes:=by
  rcases h.bytes with e | ⟨b,f,ha,r,m,hc⟩
  · exact Or.inl e
  · rcases hlow with e | hlow
    · exact Or.inl e
    refine Or.inr ⟨b,f,ha,r,E' m hg.size,fun i hi=>?_⟩;obtain ⟨z,hz,n⟩:=hc i hi;have:=hlow b f ha;exact ⟨z,hz,hg.cell n (fun e=>by have:=hR _ e.symm;simp at this;omega)⟩
end Go.Proofs.YtpobkmjicbobdaaGreat
