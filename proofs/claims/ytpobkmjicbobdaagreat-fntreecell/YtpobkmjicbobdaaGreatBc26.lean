/- Walks. -/
import Derived.Test.YtpobkmjicbobdaaGreatBc25
namespace Go.Proofs.YtpobkmjicbobdaaGreat
set_option maxRecDepth 100000
set_option maxHeartbeats 40000000
open Go.RowKit
variable {M:List ae} {P R base c cap e g len size:Nat} {a:Option Addr} {d q:Int} {k t:ByteArray} {w w':World} {xs:List Value}
theorem eQ (R P:Nat) (a:Option Addr) (len cap:Nat) (k t:ByteArray) (q d n:Int) (w:World) (h:bj w R a len cap P) (hP:P<99000) (hF:jC k t q d n) :
 Calls Tryz.prog 156 #[.pointer (pT R),.agg #[.string k,iT q,iT d,.string t,iT n]] w fun e w'=>E5 R a len cap P w e w':=by
 have av:=h.lt;obtain ⟨X,hX⟩:=aG w.heap.size;have Z:Eq (∀b aa,a=some ⟨b,aa,none⟩→0<len→b≠X):=h.far (by omega);have r:Eq (∀b aa,a=some ⟨b,aa,none⟩→0<len→b≠X+1):=h.far (by omega);have F:X≠R:=by omega
 have m:X+1≠R:=by omega
 have J:=bT hF;have ai:=bT h;clear h hF;go_enter Tryz.func156,Tryz.ntmps156
 go_wp2_with fail
 obtain ⟨W0,a4⟩:∃W,W=(w.alloc (.cells #[.string k,iT q,iT d,.string t,iT n] 50)).alloc (.cells #[.string ⟨#[]⟩,iT 0,iT 0,.string ⟨#[]⟩,iT 0] 50):=⟨_,rfl⟩;have k0:Bl w W0:=by rw [a4];exact bZ.alloc (by simp) _
 have B0:cq W0 X (.string k) (iT q) (iT d) (.string t) (iT n):=by rw [a4,hX];exact (cq.new _ _ _ _ _ _ _).alloc _
 have C0:cq W0 (X+1) (.string ⟨#[]⟩) (iT 0) (iT 0) (.string ⟨#[]⟩) (iT 0):=by
  rw [a4,hX];have:=cq.new (w.alloc (.cells #[.string k,iT q,iT d,.string t,iT n] 50)) 50 (.string ⟨#[]⟩) (iT 0) (iT 0) (.string ⟨#[]⟩) (iT 0);simpa using this
 rw [← a4,← hX];have ac:Eq (w.grownBy W0 (some R)):=aT k0;have a2:Eq (w.heap.size≤X):=by show w.heap.size≤X;omega
 have T:Eq (w.heap.size≤X+1):=by show w.heap.size≤X+1;omega
 refine (cu R P a len cap 48 _ (ai.o.below k0) (by omega) (by omega)).mono ?_;rintro e K ⟨z,rfl,hz,I,a7⟩;have Y:=B0.grown a7 F;have U:=C0.grown a7 m;have H:Eq (w.grownBy K (some R)):=af ac.o a7;clear a4 hX k0 B0 C0 a7 ac ai;have a3:X≠X+1:=by omega
 by_cases z0:z=0
 · subst z0;go_wp2_with fail
   have B:Bl K (K.alloc (.cells ((([⟨#[]⟩,⟨#[65]⟩,⟨#[97,32,98]⟩,⟨#[97,98,99,100,101,102,103,104,105]⟩,⟨#[97,98,99,100,101,102,103,104]⟩,⟨#[48,47,57]⟩]:List ByteArray).map Value.string).toArray) 9)):=bZ;refine (tr mH R (P+1) a len cap K.heap.size 0 6 6 _ (I.below B) (by omega) (by omega) (by omega) (by have:=I.lt;omega) (by simp) (lZ K 9 [⟨#[]⟩,⟨#[65]⟩,⟨#[97,32,98]⟩,⟨#[97,98,99,100,101,102,103,104,105]⟩,⟨#[97,98,99,100,101,102,103,104]⟩,⟨#[48,47,57]⟩] mH ?_)).mono ?_
   · intro s hs;simp only [FF,F4,or_false] at hs;rcases hs with rfl | rfl | rfl | rfl | rfl | rfl <;> (unfold mH;decide)
   rintro e Q ⟨v,rfl,hv,C,A⟩;have u:=(Y.below B).grown A F;have D:=(U.below B).grown A m;have E:Eq (w.grownBy Q (some R)):=af (af H.o (aT B)) A;clear Y U B A H;obtain ⟨N,x⟩:∃W,W=Q.setCell ⟨X,0,none⟩ (.string v):=⟨_,rfl⟩;have y:=u.set0 (.string v);have f:=D.other (Ne.symm a3) 0 (.string v);have L:bj N R a len cap (P+1+1):=by rw [x];exact C.other F Z.o _ _
   have O:Eq (w.grownBy N (some R)):=by show w.grownBy N (some R);rw [x];exact aI E.o a2.o (aF _ _ _ _)
   have xx:=u.c0;have ff:=u.fr 0;have lx:=u.lt;rw [← x] at y f;go_upto_region 12 with fail
   rw [← x];clear x u D C E xx ff lx;have x0:=y.all;have y0:=f.c0;have y1:=f.c1;have y2:=f.c2;have y3:=f.c3;have y4:=f.c4;have f0:=f.fr 0;have f1:=f.fr 1;have f2:=f.fr 2;have f3:=f.fr 3;have f4:=f.fr 4;have lX:=y.lt;have lY:=f.lt;clear y;go_wp2;refine bodyPost_ret (v:=.agg #[.string v,iT q,iT d,.string t,iT n]) (by simp [results,Tryz.results156,go_sem,y0,y1,y2,y3,y4]) rfl ⟨v,t,q,d,n,P+1+1,rfl,⟨hv,J.o.2.1,J.o.2.2.1,J.o.2.2.2.1,J.o.2.2.2.2⟩,?_,by omega,?_⟩
   · exact ((((L.other m r.o _ _).other m r.o _ _).other m r.o _ _).other m r.o _ _).other m r.o _ _
   · exact aI O.o T.o (af (af (af (af (aF _ _ _ _) (aF _ _ _ _)) (aF _ _ _ _)) (aF _ _ _ _)) (aF _ _ _ _))
 by_cases z1:z=1
 · subst z1;go_wp2_with fail
   have B:Bl K (K.alloc (.cells ((([0,-1,100000,100001]:List Int).map iT).toArray) 3)):=bZ;refine (dV Wf R (P+1) a len cap K.heap.size 0 4 4 _ (I.below B) (by omega) (by omega) (by omega) (by have:=I.lt;omega) (by simp) (dH K 3 [0,-1,100000,100001] Wf ?_)).mono ?_
   · intro s hs;simp only [FF,F4,or_false] at hs;rcases hs with rfl | rfl | rfl | rfl <;> (unfold Wf;decide)
   rintro e Q ⟨v,rfl,hv,C,A⟩;have u:=(Y.below B).grown A F;have D:=(U.below B).grown A m;have E:Eq (w.grownBy Q (some R)):=af (af H.o (aT B)) A;clear Y U B A H;obtain ⟨N,x⟩:∃W,W=Q.setCell ⟨X,1,none⟩ (iT v):=⟨_,rfl⟩;have y:=u.set1 (iT v);have f:=D.other (Ne.symm a3) 1 (iT v);have L:bj N R a len cap (P+1+1):=by rw [x];exact C.other F Z.o _ _
   have O:Eq (w.grownBy N (some R)):=by show w.grownBy N (some R);rw [x];exact aI E.o a2.o (aF _ _ _ _)
   have xx:=u.c1;have ff:=u.fr 1;have lx:=u.lt;rw [← x] at y f;go_upto_region 12 with fail
   rw [← x];clear x u D C E xx ff lx;have x0:=y.all;have y0:=f.c0;have y1:=f.c1;have y2:=f.c2;have y3:=f.c3;have y4:=f.c4;have f0:=f.fr 0;have f1:=f.fr 1;have f2:=f.fr 2;have f3:=f.fr 3;have f4:=f.fr 4;have lX:=y.lt;have lY:=f.lt;clear y;go_wp2;refine bodyPost_ret (v:=.agg #[.string k,iT v,iT d,.string t,iT n]) (by simp [results,Tryz.results156,go_sem,y0,y1,y2,y3,y4]) rfl ⟨k,t,v,d,n,P+1+1,rfl,⟨J.o.1,J.o.2.1,hv,J.o.2.2.2.1,J.o.2.2.2.2⟩,?_,by omega,?_⟩
   · exact ((((L.other m r.o _ _).other m r.o _ _).other m r.o _ _).other m r.o _ _).other m r.o _ _
   · exact aI O.o T.o (af (af (af (af (aF _ _ _ _) (aF _ _ _ _)) (aF _ _ _ _)) (aF _ _ _ _)) (aF _ _ _ _))
 by_cases z2:z=2
 · subst z2;go_wp2_with fail
   have B:Bl K (K.alloc (.cells ((([0,4,-1,1,2,3]:List Int).map iT).toArray) 3)):=bZ;refine (dV Wf R (P+1) a len cap K.heap.size 0 6 6 _ (I.below B) (by omega) (by omega) (by omega) (by have:=I.lt;omega) (by simp) (dH K 3 [0,4,-1,1,2,3] Wf ?_)).mono ?_
   · intro s hs;simp only [FF,F4,or_false] at hs;rcases hs with rfl | rfl | rfl | rfl | rfl | rfl <;> (unfold Wf;decide)
   rintro e Q ⟨v,rfl,hv,C,A⟩;have u:=(Y.below B).grown A F;have D:=(U.below B).grown A m;have E:Eq (w.grownBy Q (some R)):=af (af H.o (aT B)) A;clear Y U B A H;obtain ⟨N,x⟩:∃W,W=Q.setCell ⟨X,2,none⟩ (iT v):=⟨_,rfl⟩;have y:=u.set2 (iT v);have f:=D.other (Ne.symm a3) 2 (iT v);have L:bj N R a len cap (P+1+1):=by rw [x];exact C.other F Z.o _ _
   have O:Eq (w.grownBy N (some R)):=by show w.grownBy N (some R);rw [x];exact aI E.o a2.o (aF _ _ _ _)
   have xx:=u.c2;have ff:=u.fr 2;have lx:=u.lt;rw [← x] at y f;go_upto_region 12 with fail
   rw [← x];clear x u D C E xx ff lx;have x0:=y.all;have y0:=f.c0;have y1:=f.c1;have y2:=f.c2;have y3:=f.c3;have y4:=f.c4;have f0:=f.fr 0;have f1:=f.fr 1;have f2:=f.fr 2;have f3:=f.fr 3;have f4:=f.fr 4;have lX:=y.lt;have lY:=f.lt;clear y;go_wp2;refine bodyPost_ret (v:=.agg #[.string k,iT q,iT v,.string t,iT n]) (by simp [results,Tryz.results156,go_sem,y0,y1,y2,y3,y4]) rfl ⟨k,t,q,v,n,P+1+1,rfl,⟨J.o.1,J.o.2.1,J.o.2.2.1,hv,J.o.2.2.2.2⟩,?_,by omega,?_⟩
   · exact ((((L.other m r.o _ _).other m r.o _ _).other m r.o _ _).other m r.o _ _).other m r.o _ _
   · exact aI O.o T.o (af (af (af (af (aF _ _ _ _) (aF _ _ _ _)) (aF _ _ _ _)) (aF _ _ _ _)) (aF _ _ _ _))
 by_cases z3:z=3
 · subst z3;go_wp2_with fail
   have B:Bl K (K.alloc (.cells ((([1000000,1000001,-1000001,9223372036854775807]:List Int).map iT).toArray) 3)):=bZ;refine (dV Wf R (P+1) a len cap K.heap.size 0 4 4 _ (I.below B) (by omega) (by omega) (by omega) (by have:=I.lt;omega) (by simp) (dH K 3 [1000000,1000001,-1000001,9223372036854775807] Wf ?_)).mono ?_
   · intro s hs;simp only [FF,F4,or_false] at hs;rcases hs with rfl | rfl | rfl | rfl <;> (unfold Wf;decide)
   rintro e Q ⟨v,rfl,hv,C,A⟩;have u:=(Y.below B).grown A F;have D:=(U.below B).grown A m;have E:Eq (w.grownBy Q (some R)):=af (af H.o (aT B)) A;clear Y U B A H;obtain ⟨N,x⟩:∃W,W=Q.setCell ⟨X,4,none⟩ (iT v):=⟨_,rfl⟩;have y:=u.set4 (iT v);have f:=D.other (Ne.symm a3) 4 (iT v);have L:bj N R a len cap (P+1+1):=by rw [x];exact C.other F Z.o _ _
   have O:Eq (w.grownBy N (some R)):=by show w.grownBy N (some R);rw [x];exact aI E.o a2.o (aF _ _ _ _)
   have xx:=u.c4;have ff:=u.fr 4;have lx:=u.lt;rw [← x] at y f;go_upto_region 12 with fail
   rw [← x];clear x u D C E xx ff lx;have x0:=y.all;have y0:=f.c0;have y1:=f.c1;have y2:=f.c2;have y3:=f.c3;have y4:=f.c4;have f0:=f.fr 0;have f1:=f.fr 1;have f2:=f.fr 2;have f3:=f.fr 3;have f4:=f.fr 4;have lX:=y.lt;have lY:=f.lt;clear y;go_wp2;refine bodyPost_ret (v:=.agg #[.string k,iT q,iT d,.string t,iT v]) (by simp [results,Tryz.results156,go_sem,y0,y1,y2,y3,y4]) rfl ⟨k,t,q,d,v,P+1+1,rfl,⟨J.o.1,J.o.2.1,J.o.2.2.1,J.o.2.2.2.1,hv⟩,?_,by omega,?_⟩
   · exact ((((L.other m r.o _ _).other m r.o _ _).other m r.o _ _).other m r.o _ _).other m r.o _ _
   · exact aI O.o T.o (af (af (af (af (aF _ _ _ _) (aF _ _ _ _)) (aF _ _ _ _)) (aF _ _ _ _)) (aF _ _ _ _))
 by_cases z4:z=4
 · subst z4;go_wp2_with fail
   refine (uV ⟨#[116]⟩ 60 _ rfl (by omega) (by omega)).mono ?_;rintro e w' ⟨s1,rfl,ah,hw⟩;have ab:=hw.symm;subst ab;go_wp2_with fail
   refine (uV ⟨#[116]⟩ 61 _ rfl (by omega) (by omega)).mono ?_;rintro e w' ⟨s2,rfl,ad,hw⟩;have ab:=hw.symm;subst ab;have al:Eq (mH s1):=ah;have am:Eq (mH s2):=ad;clear ah ad;go_wp2_with fail
   have B:Bl K (K.alloc (.cells ((([⟨#[113]⟩,s1,s2]:List ByteArray).map Value.string).toArray) 9)):=bZ;refine (tr mH R (P+1) a len cap K.heap.size 0 3 3 _ (I.below B) (by omega) (by omega) (by omega) (by have:=I.lt;omega) (by simp) (lZ K 9 [⟨#[113]⟩,s1,s2] mH ?_)).mono ?_
   · intro s hs;simp only [FF,F4,or_false] at hs;rcases hs with rfl | rfl | rfl
     · unfold mH;decide
     · exact al.o
     · exact am.o
   rintro e Q ⟨v,rfl,hv,C,A⟩;have u:=(Y.below B).grown A F;have D:=(U.below B).grown A m;have E:Eq (w.grownBy Q (some R)):=af (af H.o (aT B)) A;clear Y U B A H;obtain ⟨N,x⟩:∃W,W=Q.setCell ⟨X,3,none⟩ (.string v):=⟨_,rfl⟩;have y:=u.set3 (.string v);have f:=D.other (Ne.symm a3) 3 (.string v);have L:bj N R a len cap (P+1+1):=by rw [x];exact C.other F Z.o _ _
   have O:Eq (w.grownBy N (some R)):=by show w.grownBy N (some R);rw [x];exact aI E.o a2.o (aF _ _ _ _)
   have xx:=u.c3;have ff:=u.fr 3;have lx:=u.lt;rw [← x] at y f;go_upto_region 12 with fail
   rw [← x];clear x u D C E xx ff lx;have x0:=y.all;have y0:=f.c0;have y1:=f.c1;have y2:=f.c2;have y3:=f.c3;have y4:=f.c4;have f0:=f.fr 0;have f1:=f.fr 1;have f2:=f.fr 2;have f3:=f.fr 3;have f4:=f.fr 4;have lX:=y.lt;have lY:=f.lt;clear y;go_wp2;refine bodyPost_ret (v:=.agg #[.string k,iT q,iT d,.string v,iT n]) (by simp [results,Tryz.results156,go_sem,y0,y1,y2,y3,y4]) rfl ⟨k,v,q,d,n,P+1+1,rfl,⟨J.o.1,hv,J.o.2.2.1,J.o.2.2.2.1,J.o.2.2.2.2⟩,?_,by omega,?_⟩
   · exact ((((L.other m r.o _ _).other m r.o _ _).other m r.o _ _).other m r.o _ _).other m r.o _ _
   · exact aI O.o T.o (af (af (af (af (aF _ _ _ _) (aF _ _ _ _)) (aF _ _ _ _)) (aF _ _ _ _)) (aF _ _ _ _))
 have e0:(z == 0)=false:=by simpa using z0
 have e1:(z == 1)=false:=by simpa using z1
 have e2:(z == 2)=false:=by simpa using z2
 have e3:(z == 3)=false:=by simpa using z3
 have e4:(z == 4)=false:=by simpa using z4
 have y:=Y;have f:=U;clear Y U;have x0:=y.all;have y0:=f.c0;have y1:=f.c1;have y2:=f.c2;have y3:=f.c3;have y4:=f.c4;have f0:=f.fr 0;have f1:=f.fr 1;have f2:=f.fr 2;have f3:=f.fr 3;have f4:=f.fr 4;have lX:=y.lt;have lY:=f.lt;clear y;go_wp2;refine bodyPost_ret (v:=.agg #[.string k,iT q,iT d,.string t,iT n]) (by simp [results,Tryz.results156,go_sem,y0,y1,y2,y3,y4]) rfl ⟨k,t,q,d,n,P+1,rfl,J.o,?_,by omega,?_⟩
 · exact ((((I.other m r.o _ _).other m r.o _ _).other m r.o _ _).other m r.o _ _).other m r.o _ _
 · exact aI H.o T.o (af (af (af (af (aF _ _ _ _) (aF _ _ _ _)) (aF _ _ _ _)) (aF _ _ _ _)) (aF _ _ _ _))
theorem qE (w:World) (s:ByteArray) (Q d:Int) (t:ByteArray) (m:Int):∀j u,[Value.string s,iT Q,iT d,.string t,iT m][j]?=some u→(w.alloc (.cells #[.string s,iT Q,iT d,.string t,iT m] 50)).cell? ((⟨w.heap.size,0,none⟩:Addr).add j)=some u:=by
 intro j u b;rw [FO];match j,b with
 | 0,b=>simp at b;subst b;simp
 | 1,b=>simp at b;subst b;simp
 | 2,b=>simp at b;subst b;simp
 | 3,b=>simp at b;subst b;simp
 | 4,b=>simp at b;subst b;simp
theorem ya {w w':World} {base e size n:Nat} {v:Value} {xs:List Value} (h:w.ownsRow base e size v n xs) (hb:Bl w w'):w'.ownsRow base e size v n xs:=h.kept (row:=none) ⟨hb.os,hb.tape,hb.output,hb.size,fun k hk _=>hb.block k hk⟩ (by
 cases v.ownBlock with
 | none=>exact .inl rfl
 | some x=>exact .inr (by simp))
theorem yd {n:Nat} {v:Value} {b:Addr} {f c0 m:Nat} (h:w.ownsRow base e size v n xs) (hn:v=nZ ↔ Value.slice (some b) f c0=nZ∧m=0):∃g c,v=sL g n c :=
 l9 h (fun e=>by cases (hn.1 e).1)
def EO:Value→Nat
 | .slice _ n _=>n
 | _=>0
def qS (M:List ae):Prop:=∀l ∈ M,mH l.1∧mH l.2.2.2.1
theorem qS.snoc {l:ae} (h:qS M) (hk:mH l.1) (b:mH l.2.2.2.1):qS (M++[l]):=by
 intro x hx;rcases FI.1 hx with h1 | h1
 · exact h x h1
 · rw [FL] at h1;subst h1;exact ⟨hk,b⟩
theorem tO {n:Int} (h:jC k t q d n):dR (k,q,d,t,n) :=
 ⟨by have:=h.1.1;unfold maxLen;show k.size≤_;omega,h.2.2.1,h.2.2.2.1,by have:=h.2.1.1;unfold maxLen;show t.size≤_;omega,h.2.2.2.2⟩
def Fn (R:Nat) (a:Option Addr) (len cap P:Nat) (w:World) (e:Ending) (w':World):Prop :=
 ∃(g n c P':Nat) (M:List ae),e=.returned (sL g n c)∧ag w' w.heap.size g n c M∧qS M∧n≤13∧bj w' R a len cap P'∧P'≤P+200∧w.grownBy w' (some R)
theorem bj.grownO (h:bj w R a len cap P) (hg:w.grownBy w' (some g)) (hR:R≠g) (hB:∀b f,a=some ⟨b,f,none⟩→0<len→b≠g):bj w' R a len cap P where
 c0:=(an hg (x:=⟨R,0,none⟩) h.lt hR).trans h.c0
 c1:=(an hg (x:=⟨R,1,none⟩) h.lt hR).trans h.c1
 f1:=(Hb (hg.block R h.lt (fun e=>hR (by cases e;rfl)))).trans h.f1
 few:=h.few
 two:=fun o=>(an hg (x:=⟨R,o+2,none⟩) h.lt hR).trans (h.two o)
 bytes:=by
  rcases h.bytes with h0 | ⟨b,f,rfl,hb,m,hc⟩
  · exact Or.inl h0
  · by_cases h0:len=0
    · exact Or.inl h0
    · refine Or.inr ⟨b,f,rfl,hb,u' m hg.size,fun i hi=>?_⟩;obtain ⟨z,hz,n⟩:=hc i hi;exact ⟨z,hz,(an hg (x:=⟨b,f+i,none⟩) m (hB b f rfl (by omega))).trans n⟩
theorem bj.low (h:bj w R a len cap P):∀b f,a=some ⟨b,f,none⟩→0<len→b<w.heap.size:=by
 intro b f e hl;rcases h.bytes with h0 | ⟨b',o,n,hb,m,hc⟩
 · omega
 · rw [e] at n;cases n;exact m
theorem BA {n:Nat} {m v:Int} (h:ag w base g n c ((k,q,d,t,m) :: M)) (hv:(Lit.int .i64 v).wf=true):ag (w.setCell ⟨g,1,none⟩ (iT v)) base g n c ((k,v,d,t,m) :: M):=by
 have hw:=h.ents (k,q,d,t,m) (by simp);exact ⟨(h.owns.stored 1 (iT v)).1,h.len,fun l hl=>by
  rcases FF.1 hl with rfl | h1
  · exact ⟨hw.1,hv,hw.2.2⟩
  · exact h.ents l (by simp [h1])⟩
theorem wP {n:Nat} {b o:ByteArray} {m f r s:Int} (h:ag w base g n c ((k,q,d,t,m) :: M)) (hv:dR (b,f,r,o,s)):ag (((((w.setCell ⟨g,0,none⟩ (.string b)).setCell ⟨g,1,none⟩ (iT f)).setCell ⟨g,2,none⟩ (iT r)).setCell ⟨g,3,none⟩ (.string o)).setCell ⟨g,4,none⟩ (iT s)) base g n c ((b,f,r,o,s) :: M):=by
 have h0:=(h.owns.stored 0 (.string b)).1;have h1:=(h0.stored 1 (iT f)).1;have h2:=(h1.stored 2 (iT r)).1;have h3:=(h2.stored 3 (.string o)).1;have h4:=(h3.stored 4 (iT s)).1;exact ⟨h4,h.len,fun l hl=>by
  rcases FF.1 hl with rfl | hm
  · exact hv
  · exact h.ents l (by simp [hm])⟩
theorem u9 (R P:Nat) (a:Option Addr) (len cap:Nat) (w:World) (h:bj w R a len cap P) (hP:P<90000) :
 Calls Tryz.prog 95 #[.pointer (pT R)] w fun e w'=>Fn R a len cap P w e w':=by
 obtain ⟨i0,hi,bg,be,bu⟩:=info_parts Tryz.infoEnt;have aq:Eq (∀b T,a=some ⟨b,T,none⟩→0<len→b<w.heap.size):=h.low;have cm:=h.lt;obtain ⟨W0,ay⟩:∃W,W=w.alloc (.cells #[] 50):=⟨_,rfl⟩;have bk:Eq (W0.ownsRow w.heap.size 50 5 (sL (w.heap.size) 0 0) 0 (aC [])):=by
  have:=F6 (base:=w.heap.size) (e:=50) (size:=5) w #[] 0 (Fv _) (by simp) (by simp);show World.ownsRow _ _ _ _ _ _ _
  rw [ay];simpa [aC] using this
 have Q:Bl w W0:=by rw [ay];exact bZ
 have R0:bj W0 R a len cap P:=h.below Q;have G0:w.grownBy W0 (some R):=aT Q;clear h;go_enter Tryz.func95,Tryz.ntmps95
 go_wp2_with fail
 rw [← ay];clear ay Q;refine (cu R P a len cap 5 _ R0 (by omega) (by omega)).mono ?_;rintro e w1 ⟨q,rfl,hq,bq,aM⟩;have b5:0≤q∧q<5:=⟨hq.1,hq.2 (by omega)⟩;obtain ⟨N,rfl⟩:=Gq b5.1;have ar:w1.ownsRow w.heap.size 50 5 (sL (w.heap.size) 0 0) 0 (aC []):=bk.o.kept aM (.inr (by simp [Value.ownBlock];omega));have G1:=af G0 aM;clear hq aM bk R0 G0;have bR:IntKind.i64.wrap (1+(N:Int))=1+(N:Int):=by rw [FQ];unfold wrap64;omega
 have b7:Eq (bj w1 R a len cap (P+1)):=bq;have bt:Eq (w1.ownsRow w.heap.size 50 5 (sL (w.heap.size) 0 0) 0 (aC [])):=ar;have bm:Eq (w.grownBy w1 (some R)):=G1;clear bq ar G1;go_wp2;go_loopw [3,4] (fun vv iv wr=>∃(i n g c F:Nat) (M:List ae),iv=iT (i:Int)∧vv=sL g n c∧n+i=1+N∧F≤P+1+5*n∧bj wr R a len cap F∧wr.ownsRow w.heap.size 50 5 (sL g n c) n (aC M)∧M.length=n∧(∀l ∈ M,dR l)∧qS M∧w.grownBy wr (some R)) (fun _ iv _=>(intOf iv).toNat)
 case atStart=>exact ⟨1+N,0,_,0,P+1,[],by simp,rfl,by omega,by omega,b7.o,bt.o,rfl,by simp,fun l hl=>by simp at hl,bm.o⟩
 case round =>
  clear b7 bt bm;obtain ⟨i,n,g,c,F,M,rfl,rfl,bC,bo,ak,hv,ao,hw,ap,hg⟩:=hrel;have U:Eq (bj wr R a len cap F):=ak;have HV:Eq (wr.ownsRow w.heap.size 50 5 (sL g n c) n (aC M)):=hv;have X:Eq (M.length=n):=ao;have HW:Eq (∀l ∈ M,dR l):=hw;have K:Eq (qS M):=ap;have HG:Eq (w.grownBy wr (some R)):=hg;clear ak hv ao hw ap hg;by_cases bJ:0<i
  · have aB:(i:Int) > 0:=by omega
    have cn:IntKind.i64.wrap ((i:Int) - 1)=(i:Int) - 1:=by rw [FQ];unfold wrap64;omega
    go_wp2_with fail
    refine (iA R F a len cap 0 _ U.o (by omega) (by decide)).mono ?_;rintro e D ⟨f,m,A,d,nn,P2,rfl,C,am,bL,a3⟩;have a1:Eq (jC f m A d nn):=C;have ai:Eq (D.ownsRow w.heap.size 50 5 (sL g n c) n (aC M)):=HV.o.kept a3 (.inr (by have:=(HV.o.lt g rfl).1;simp [Value.ownBlock];omega));have ab:Eq (w.grownBy D (some R)):=af HG.o a3;have an:Eq (bj D R a len cap P2):=am;have bc:=ab.o.size;clear C am a3 HV HG U;have aH:Eq (∀j u,[Value.string f,iT A,iT d,.string m,iT nn][j]?=some u→(D.alloc (.cells #[.string f,iT A,iT d,.string m,iT nn] 50)).cell? ((⟨D.heap.size,0,none⟩:Addr).add j)=some u):=qE D f A d m nn;have ka:Bl D (D.alloc (.cells #[.string f,iT A,iT d,.string m,iT nn] 50)):=bZ;have av:Eq ((D.alloc (.cells #[.string f,iT A,iT d,.string m,iT nn] 50)).ownsRow w.heap.size 50 5 (sL g n c) n (aC M)):=ya ai.o ka;have a6:Eq (w.grownBy (D.alloc (.cells #[.string f,iT A,iT d,.string m,iT nn] 50)) (some R)):=af ab.o (aT ka);have au:Eq (bj (D.alloc (.cells #[.string f,iT A,iT d,.string m,iT nn] 50)) R a len cap P2):=an.o.below ka;have B:Eq (w.heap.size≤g):=(av.o.lt g rfl).1;have aO:Eq (w.heap.size≤(D.alloc (.cells #[.string f,iT A,iT d,.string m,iT nn] 50)).heap.size):=a6.o.size;clear ka ai ab an;go_wp2_with (at_builtin;refine wpList_append_own _ rfl _ _ 28 rfl w.heap.size 50 i0 _ 5 56 Tryz.underlying28 hi bg be bu rfl (by decide) _ _ _ rfl av.o ⟨D.heap.size,0,none⟩ 1 1 [.string f,iT A,iT d,.string m,iT nn] rfl rfl aH.o (by intro u hu;simp at hu;rcases hu with rfl | rfl | rfl | rfl | rfl <;> rfl) (by unfold maxLen;omega) (by omega) aO.o ?_;intro v2 w4 J O a8;obtain ⟨g2,c2,rfl⟩:=yd J a8)
    go_roundw
    case rel =>
     have aj:(D.alloc (.cells #[.string f,iT A,iT d,.string m,iT nn] 50)).grownBy w4 (some g):=O;have aX:(M++[((f,A,d,m,nn):ae)]).length=n+1:=by rw [Fy,X.o];rfl
     have aG:∀l ∈ M++[((f,A,d,m,nn):ae)],dR l:=by
      intro l hl;rcases FI.1 hl with h | h
      · exact HW.o l h
      · rw [FL] at h;subst h;exact tO a1.o
     have aJ:qS (M++[((f,A,d,m,nn):ae)]):=K.o.snoc a1.o.1 a1.o.2.1;have aQ:w4.ownsRow w.heap.size 50 5 (sL g2 (n+1) c2) (n+1) (aC (M++[((f,A,d,m,nn):ae)])):=by rw [aL];exact J
     have aU:w.grownBy w4 (some R):=aI a6.o B.o aj;have aD:bj w4 R a len cap P2:=au.o.grownO aj (by have:=B.o;omega) (fun b T e hl=>by have h1:=aq.o b T e hl;have:=B.o;omega);exact ⟨i - 1,n+1,g2,c2,P2,_,by rw [show ((i - 1:Nat):Int)=(i:Int) - 1 by omega],rfl,by omega,by omega,aD,aQ,aX,aG,aJ,aU⟩
    case measure=>simp [intOf];omega
  · have aB:¬(i:Int) > 0:=by omega
    have bO:n≤5:=by omega
    have aS:1≤n:=by omega
    clear bC;go_wp2_with fail
    refine (cu R F a len cap 40 _ U.o (by omega) (by omega)).mono ?_;rintro e L ⟨q,rfl,hq,bp,aW⟩;have a2:Eq (bj L R a len cap (F+1)):=bp;have E:Eq (ag L w.heap.size g n c M):=⟨HV.o.kept aW (.inr (by have:=(HV.o.lt g rfl).1;simp [Value.ownBlock];omega)),X.o,HW.o⟩;have a4:Eq (w.grownBy L (some R)):=af HG.o aW;have ba:0≤q∧q<40:=⟨hq.1,hq.2 (by omega)⟩;have B:Eq (w.heap.size≤g):=E.o.lt.1;clear hq bp aW U HV HG;by_cases z0:q=0
    · subst z0;have bQ:Eq (ag (L.alloc (.cells #[] 50)) w.heap.size L.heap.size 0 0 []):=by
       have:=F6 (base:=w.heap.size) (e:=50) (size:=5) L #[] 0 a4.o.size (by simp) (by simp);exact ⟨by simpa [aC] using this,rfl,by simp⟩
      have ka:Bl L (L.alloc (.cells #[] 50)):=bZ;have au:Eq (bj (L.alloc (.cells #[] 50)) R a len cap (F+1)):=a2.o.below ka;have a6:Eq (w.grownBy (L.alloc (.cells #[] 50)) (some R)):=af a4.o (aT ka);clear ka;go_wp2;go_ret;exact ⟨_,0,0,F+1,[],rfl,bQ.o,fun l hl=>by simp at hl,by omega,au.o,by omega,a6.o⟩
    have bv:(q == 0)=false:=by simpa using z0
    obtain ⟨l0,M',hM⟩:∃l0 M',M=l0 :: M':=by
     cases M with
     | nil=>have:=X.o;simp at this;omega
     | cons x r=>exact ⟨x,r,rfl⟩
    obtain ⟨Q,q0,d0,t0,m0⟩:=l0;subst hM;have az:Eq (jC Q t0 q0 d0 m0):=⟨(K.o (Q,q0,d0,t0,m0) (by simp)).1,(K.o (Q,q0,d0,t0,m0) (by simp)).2,(HW.o (Q,q0,d0,t0,m0) (by simp)).2.1,(HW.o (Q,q0,d0,t0,m0) (by simp)).2.2.1,(HW.o (Q,q0,d0,t0,m0) (by simp)).2.2.2.2⟩;have aN:Eq (qS M'):=fun l hl=>K.o l (by simp [hl])
    have a9:Eq (∀b T,a=some ⟨b,T,none⟩→0<len→b≠g):=fun b T e hl=>by have h1:=aq.o b T e hl;have:=B.o;omega
    have I:g≠R:=by have:=B.o;omega
    have bd:R≠g:=by have:=B.o;omega
    by_cases z1:q=1
    · subst z1;go_wp2_with fail
      have kc:Bl L (L.alloc (.cells ((([1,-1]:List Int).map iT).toArray) 3)):=bZ;refine (dV Wf R (F+1) a len cap L.heap.size 0 2 2 _ (a2.o.below kc) (by omega) (by omega) (by omega) (by have:=a2.o.lt;omega) (by simp) (dH L 3 [1,-1] Wf ?_)).mono ?_
      · intro s hs;simp only [FF,F4,or_false] at hs;rcases hs with rfl | rfl <;> (unfold Wf;decide)
      rintro e Y ⟨v,rfl,hv,ac,a7⟩;have ad:Eq (ag Y w.heap.size g n c ((Q,q0,d0,t0,m0) :: M')):=(E.o.below kc).grown a7 (by simpa using I);have aV:Eq (w.grownBy Y (some R)):=af (af a4.o (aT kc)) a7;have bs:Eq (bj Y R a len cap (F+1+1)):=ac;have aZ:Eq (ag (Y.setCell ⟨g,1,none⟩ (iT v)) w.heap.size g n c ((Q,v,d0,t0,m0) :: M')):=BA ad.o hv;have aP:Eq (bj (Y.setCell ⟨g,1,none⟩ (iT v)) R a len cap (F+1+1)):=ac.other I a9.o _ _;have aR:Eq (w.grownBy (Y.setCell ⟨g,1,none⟩ (iT v)) (some R)):=aI aV.o B.o (aF _ _ _ _);have c1:Y.cell? ⟨g,1,none⟩=some (iT q0):=(ad.o.owns.cellAt 1 (by omega)).trans rfl;have f1:Y.frozen? ⟨g,1,none⟩=false:=ad.o.owns.frozenAt 1;have aY:=ad.o.lt.2;clear kc ac a7;go_wp2;go_ret;exact ⟨g,n,c,F+1+1,_,rfl,aZ.o,fun l hl=>(by
       rcases FF.1 hl with rfl | h1
       · exact ⟨az.o.1,az.o.2.1⟩
       · exact aN.o l h1),by omega,aP.o,by omega,aR.o⟩
    have b6:(q == 1)=false:=by simpa using z1
    by_cases z2:q=2
    · subst z2;have c0:L.cell? ⟨g,0,none⟩=some (.string Q):=(E.o.owns.cellAt 0 (by omega)).trans rfl;have c1:L.cell? ⟨g,1,none⟩=some (iT q0):=(E.o.owns.cellAt 1 (by omega)).trans rfl;have c2:L.cell? ⟨g,2,none⟩=some (iT d0):=(E.o.owns.cellAt 2 (by omega)).trans rfl;have c3:L.cell? ⟨g,3,none⟩=some (.string t0):=(E.o.owns.cellAt 3 (by omega)).trans rfl;have c4:L.cell? ⟨g,4,none⟩=some (iT m0):=(E.o.owns.cellAt 4 (by omega)).trans rfl;have aY:=E.o.lt.2;go_wp2_with fail
      clear c0 c1 c2 c3 c4 aY;refine (eQ R (F+1) a len cap Q t0 q0 d0 m0 _ a2.o (by omega) az.o).mono ?_;rintro e Y ⟨k6,t6,q6,d6,m6,P6,rfl,C,hR,bW,hg⟩;have bD:Eq (jC k6 t6 q6 d6 m6):=C;have bs:Eq (bj Y R a len cap P6):=hR;have ad:Eq (ag Y w.heap.size g n c ((Q,q0,d0,t0,m0) :: M')):=E.o.grown hg (by simpa using I);have aV:Eq (w.grownBy Y (some R)):=af a4.o hg;clear C hR hg;go_wp2_with fail
      refine (eQ R (P6) a len cap k6 t6 q6 d6 m6 _ bs.o (by omega) bD.o).mono ?_;rintro e w7 ⟨k7,t7,q7,d7,m7,P7,rfl,C,hR,ce,hg⟩;have bI:Eq (jC k7 t7 q7 d7 m7):=C;have aP:Eq (bj w7 R a len cap P7):=hR;have aZ:Eq (ag w7 w.heap.size g n c ((Q,q0,d0,t0,m0) :: M')):=ad.o.grown hg (by simpa using I);have aR:Eq (w.grownBy w7 (some R)):=af aV.o hg;clear C hR hg;go_wp2_with fail
      refine (eQ R (P7) a len cap k7 t7 q7 d7 m7 _ aP.o (by omega) bI.o).mono ?_;rintro e Z ⟨k8,t8,q8,d8,m8,P8,rfl,C,hR,cf,hg⟩;have aE:Eq (jC k8 t8 q8 d8 m8):=C;have bM:Eq (bj Z R a len cap P8):=hR;have H:Eq (ag Z w.heap.size g n c ((Q,q0,d0,t0,m0) :: M')):=aZ.o.grown hg (by simpa using I);have bA:Eq (w.grownBy Z (some R)):=af aR.o hg;clear C hR hg;have c0:Z.cell? ⟨g,0,none⟩=some (.string Q):=(H.o.owns.cellAt 0 (by omega)).trans rfl;have c1:Z.cell? ⟨g,1,none⟩=some (iT q0):=(H.o.owns.cellAt 1 (by omega)).trans rfl;have c2:Z.cell? ⟨g,2,none⟩=some (iT d0):=(H.o.owns.cellAt 2 (by omega)).trans rfl;have c3:Z.cell? ⟨g,3,none⟩=some (.string t0):=(H.o.owns.cellAt 3 (by omega)).trans rfl;have c4:Z.cell? ⟨g,4,none⟩=some (iT m0):=(H.o.owns.cellAt 4 (by omega)).trans rfl;have f0:Z.frozen? ⟨g,0,none⟩=false:=H.o.owns.frozenAt 0;have f1:Z.frozen? ⟨g,1,none⟩=false:=H.o.owns.frozenAt 1;have f2:Z.frozen? ⟨g,2,none⟩=false:=H.o.owns.frozenAt 2;have f3:Z.frozen? ⟨g,3,none⟩=false:=H.o.owns.frozenAt 3;have f4:Z.frozen? ⟨g,4,none⟩=false:=H.o.owns.frozenAt 4;have aY:=H.o.lt.2;have bF:Eq (ag (((((Z.setCell ⟨g,0,none⟩ (.string k8)).setCell ⟨g,1,none⟩ (iT q8)).setCell ⟨g,2,none⟩ (iT d8)).setCell ⟨g,3,none⟩ (.string t8)).setCell ⟨g,4,none⟩ (iT m8)) w.heap.size g n c ((k8,q8,d8,t8,m8) :: M')):=wP H.o (tO aE.o);have bH:Eq (bj (((((Z.setCell ⟨g,0,none⟩ (.string k8)).setCell ⟨g,1,none⟩ (iT q8)).setCell ⟨g,2,none⟩ (iT d8)).setCell ⟨g,3,none⟩ (.string t8)).setCell ⟨g,4,none⟩ (iT m8)) R a len cap P8):=((((bM.o.other I a9.o _ _).other I a9.o _ _).other I a9.o _ _).other I a9.o _ _).other I a9.o _ _;have bN:Eq (w.grownBy (((((Z.setCell ⟨g,0,none⟩ (.string k8)).setCell ⟨g,1,none⟩ (iT q8)).setCell ⟨g,2,none⟩ (iT d8)).setCell ⟨g,3,none⟩ (.string t8)).setCell ⟨g,4,none⟩ (iT m8)) (some R)):=aI bA.o B.o (af (af (af (af (aF _ _ _ _) (aF _ _ _ _)) (aF _ _ _ _)) (aF _ _ _ _)) (aF _ _ _ _));go_wp2;go_ret;exact ⟨g,n,c,P8,_,rfl,bF.o,fun l hl=>(by
       rcases FF.1 hl with rfl | h1
       · exact ⟨aE.o.1,aE.o.2.1⟩
       · exact aN.o l h1),by omega,bH.o,by omega,bN.o⟩
    have b9:(q == 2)=false:=by simpa using z2
    by_cases z3:q=3
    · subst z3;have bi:=E.o.owns;have bl:Eq (L.ownsRow w.heap.size 50 5 (sL g n c) n (aC ((Q,q0,d0,t0,m0) :: M'))):=E.o.owns;have b2:Eq (F≤P+26):=by show _≤_;omega
      clear bi;go_wp2;go_loopw [3] (fun vv wr=>∃(n g c F:Nat) (M:List ae),vv=sL g n c∧1≤n∧n≤13∧F≤P+27+6*n∧bj wr R a len cap F∧wr.ownsRow w.heap.size 50 5 (sL g n c) n (aC M)∧M.length=n∧(∀l ∈ M,dR l)∧qS M∧w.grownBy wr (some R)) (fun vv _=>14 - EO vv)
      case atStart=>exact ⟨n,g,c,F+1,_,rfl,aS,by omega,by have:=b2.o;omega,a2.o,bl.o,X.o,HW.o,K.o,a4.o⟩
      case round =>
       clear E a2 a4 bl X HW K az aN a9 B I bd aS bO b2 z0 z1 z2 bv b6 b9 bo aB bJ ba b5 bR;obtain ⟨n,g,c,F,M,rfl,aS,b0,bo,ak,hv,ao,hw,ap,hg⟩:=hrel;have aK:Eq (wr.ownsRow w.heap.size 50 5 (sL g n c) n (aC M)):=hv;have X:Eq (M.length=n):=ao;have HW:Eq (∀l ∈ M,dR l):=hw;have K:Eq (qS M):=ap;have b1:Eq (w.grownBy wr (some R)):=hg;clear hv ao hw ap hg;go_wp2_with fail
       refine (cu R F a len cap 2 _ ak (by omega) (by omega)).mono ?_;rintro e Y ⟨y,rfl,hy,ac,a7⟩;have ck:0≤y∧y<2:=⟨hy.1,hy.2 (by omega)⟩;have U:Eq (bj Y R a len cap (F+1)):=ac;have HV:Eq (Y.ownsRow w.heap.size 50 5 (sL g n c) n (aC M)):=aK.o.kept a7 (.inr (by have:=(aK.o.lt g rfl).1;simp [Value.ownBlock];omega));have HG:Eq (w.grownBy Y (some R)):=af b1.o a7;have cd:IntKind.i64.wrap (12+y)=12+y:=by rw [FQ];unfold wrap64;omega
       clear hy ac a7 aK b1 ak;by_cases bS:(n:Int)<12+y
       · go_wp2_with fail
         refine (iA R (F+1) a len cap 0 _ U.o (by omega) (by decide)).mono ?_;rintro e D ⟨f,m,A,d,nn,P2,rfl,C,am,bL,a3⟩;have a1:Eq (jC f m A d nn):=C;have ai:Eq (D.ownsRow w.heap.size 50 5 (sL g n c) n (aC M)):=HV.o.kept a3 (.inr (by have:=(HV.o.lt g rfl).1;simp [Value.ownBlock];omega));have ab:Eq (w.grownBy D (some R)):=af HG.o a3;have an:Eq (bj D R a len cap P2):=am;have bc:=ab.o.size;clear C am a3 HV HG U;have aH:Eq (∀j u,[Value.string f,iT A,iT d,.string m,iT nn][j]?=some u→(D.alloc (.cells #[.string f,iT A,iT d,.string m,iT nn] 50)).cell? ((⟨D.heap.size,0,none⟩:Addr).add j)=some u):=qE D f A d m nn;have ka:Bl D (D.alloc (.cells #[.string f,iT A,iT d,.string m,iT nn] 50)):=bZ;have av:Eq ((D.alloc (.cells #[.string f,iT A,iT d,.string m,iT nn] 50)).ownsRow w.heap.size 50 5 (sL g n c) n (aC M)):=ya ai.o ka;have a6:Eq (w.grownBy (D.alloc (.cells #[.string f,iT A,iT d,.string m,iT nn] 50)) (some R)):=af ab.o (aT ka);have au:Eq (bj (D.alloc (.cells #[.string f,iT A,iT d,.string m,iT nn] 50)) R a len cap P2):=an.o.below ka;have B:Eq (w.heap.size≤g):=(av.o.lt g rfl).1;have aO:Eq (w.heap.size≤(D.alloc (.cells #[.string f,iT A,iT d,.string m,iT nn] 50)).heap.size):=a6.o.size;clear ka ai ab an;go_wp2_with (at_builtin;refine wpList_append_own _ rfl _ _ 28 rfl w.heap.size 50 i0 _ 5 56 Tryz.underlying28 hi bg be bu rfl (by decide) _ _ _ rfl av.o ⟨D.heap.size,0,none⟩ 1 1 [.string f,iT A,iT d,.string m,iT nn] rfl rfl aH.o (by intro u hu;simp at hu;rcases hu with rfl | rfl | rfl | rfl | rfl <;> rfl) (by unfold maxLen;omega) (by omega) aO.o ?_;intro v2 w4 J O a8;obtain ⟨g2,c2,rfl⟩:=yd J a8)
         go_roundw
         case rel =>
          have aj:(D.alloc (.cells #[.string f,iT A,iT d,.string m,iT nn] 50)).grownBy w4 (some g):=O;have aX:(M++[((f,A,d,m,nn):ae)]).length=n+1:=by rw [Fy,X.o];rfl
          have aG:∀l ∈ M++[((f,A,d,m,nn):ae)],dR l:=by
           intro l hl;rcases FI.1 hl with h | h
           · exact HW.o l h
           · rw [FL] at h;subst h;exact tO a1.o
          have aJ:qS (M++[((f,A,d,m,nn):ae)]):=K.o.snoc a1.o.1 a1.o.2.1;have aQ:w4.ownsRow w.heap.size 50 5 (sL g2 (n+1) c2) (n+1) (aC (M++[((f,A,d,m,nn):ae)])):=by rw [aL];exact J
          have aU:w.grownBy w4 (some R):=aI a6.o B.o aj;have aD:bj w4 R a len cap P2:=au.o.grownO aj (by have:=B.o;omega) (fun b T e hl=>by have h1:=aq.o b T e hl;have:=B.o;omega);exact ⟨n+1,g2,c2,P2,_,rfl,by omega,by omega,by omega,aD,aQ,aX,aG,aJ,aU⟩
         case measure=>simp [EO];omega
       · have cg:¬(n:Int)<12+y:=bS;have bG:Eq (ag Y w.heap.size g n c M):=⟨HV.o,X.o,HW.o⟩;go_wp2;go_ret;exact ⟨g,n,c,F+1,M,rfl,bG.o,K.o,b0,U.o,by omega,HG.o⟩
    have ci:(q == 3)=false:=by simpa using z3
    go_wp2;go_ret;exact ⟨g,n,c,F+1,_,rfl,E.o,K.o,by omega,a2.o,by omega,a4.o⟩
def sY (a:Option Addr) (len R:Nat):Prop:=len=0∨∀b off,a=some ⟨b,off,none⟩→b<R
theorem bj.grown {row:Option Nat} (h:bj w R a len cap P) (hg:w.grownBy w' row) (f:sY a len R) (hR:∀k,row=some k→R<k):bj w' R a len cap P where
 c0:=hg.cell h.c0 (fun e=>by have:=hR _ e.symm;simp at this)
 c1:=hg.cell h.c1 (fun e=>by have:=hR _ e.symm;simp at this)
 f1:=(bo hg (x:=⟨R,1,none⟩) h.lt (fun e=>by have:=hR _ e.symm;simp at this)).trans h.f1
 few:=h.few
 two:=fun o=>(Gc (a:=⟨R,o+2,none⟩) (hg.block R h.lt (fun e=>by have:=hR _ e.symm;omega))).trans (h.two o)
 bytes:=by
  rcases h.bytes with e | ⟨b,m,ha,n,r,hc⟩
  · exact Or.inl e
  · rcases f with e | f
    · exact Or.inl e
    refine Or.inr ⟨b,m,ha,n,u' r hg.size,fun i hi=>?_⟩;obtain ⟨z,hz,s⟩:=hc i hi;have:=f b m ha;exact ⟨z,hz,hg.cell s (fun e=>by have:=hR _ e.symm;simp at this;omega)⟩
end Go.Proofs.YtpobkmjicbobdaaGreat
