/- Walks. -/
import Derived.Test.YtpobkmjicbobdaaGreatBc27
import Derived.ChangeSlices
namespace Go.Proofs.YtpobkmjicbobdaaGreat
set_option maxRecDepth 100000
set_option maxHeartbeats 40000000
open Go.RowKit
variable {A B C:List aj} {G P X base c1 c3 cap d d0 d1 d2 g g1 g3 len lo n n0 n1 n2 nm ns s0 s1 s2 size:Nat} {L M:List ae} {S:List Int} {V:List (List aj)} {v:Value} {w w':World} {xs:List Value}
theorem pu (p:Nat→Prop) (g:Nat) (w:World):dx p w (pT g) 0 0 [] :=
 ⟨⟨rfl,Fv _,FB _,fun _=>rfl,(fun _ _ h=>absurd h (H7 _)),fun _ _ _ h=>absurd h (Gy _)⟩,fun _ _ h=>absurd h (H7 _)⟩
def EH (w:World) (e:Ending) (w':World):Prop:=∃v,e=.returned v∧dg w.heap.size w' v∧Bl w w'
theorem Fe (w:World):Calls Tryz.prog 136 #[] w (EH w):=by
 go_enter Tryz.func136,Tryz.ntmps136
 go_wp2;refine bodyPost_ret (v:=.agg #[iT 0,nZ,sL (w.heap.size+1+1+1+1) 3 3,nZ]) (by simp [results,Tryz.results136,go_sem]) rfl ?_;obtain ⟨w0,f⟩:=aG (w.alloc (.cells #[iT 0,nZ,sL (w.heap.size+1+1+1+1) 3 3,nZ] 31));have o:Bl w w0:=by rw [f];exact bZ
 have s0:w0.heap.size=w.heap.size+1:=by rw [f];simp
 rw [← f];clear f;obtain ⟨w1,b⟩:=aG (w0.alloc (.cells #[] 63));have h1:w1.heap[w.heap.size+1]?=some (.cells #[] 63 (0,0)):=by rw [b,← s0];unfold World.alloc;exact GE
 have k1:Bl w0 w1:=by rw [b];exact bZ
 have s1:w1.heap.size=w.heap.size+1+1:=by rw [b];simp [s0]
 rw [← b];clear b;obtain ⟨w3,m⟩:=aG ((w1.alloc (.cells #[] 63)).alloc (.cells #[] 63));have k3:Bl w1 w3:=by rw [m];exact bZ.alloc (by simp) _
 have t:w3.heap.size=w.heap.size+1+1+1+1:=by rw [m];simp [s1]
 rw [← m];clear m;have r:Bl w3 (w3.alloc (.cells #[sL (w.heap.size+1) 0 0,sL (w.heap.size+1+1) 0 0,sL (w.heap.size+1+1+1) 0 0] 61)):=bZ;have hrow:=F6 (base:=w.heap.size) (e:=61) (size:=1) w3 #[sL (w.heap.size+1) 0 0,sL (w.heap.size+1+1) 0 0,sL (w.heap.size+1+1+1) 0 0] 3 (by omega) (by unfold maxLen;omega) (by simp);rw [t] at hrow;have hA:=((k3.trans (r.mono k3.size)).block (w.heap.size+1) (by omega)).trans h1;have s:=((o.trans (k1.mono o.size)).trans (k3.mono (FK o.size k1.size))).trans (r.mono (by omega));exact ⟨_,rfl,⟨0,none,0,0,w.heap.size+1+1+1+1,3,none,0,0,w.heap.size+1,0,w.heap.size+1+1,0,0,w.heap.size+1+1+1,0,0,[],[],[],[],[],rfl,⟨cT.none _ _,hrow,pv hA (by omega),pu _ _ _,pu _ _ _,⟨rfl,Fv _,FB _,(fun _ h=>by cases h),(fun _=>rfl),(fun x e=>by cases e),(fun x e=>by cases e)⟩,fun x e=>by cases e⟩,by rfl,tu,oS,oS,oS⟩,s⟩
def qL (v:Value):Prop:=∃q g1 nm c1 av nv cv g3 ns c3,v=.agg #[iT q,sL g1 nm c1,.slice av nv cv,sL g3 ns c3]
def Fg (lo:Nat) (w:World) (v:Value):Prop:=∃q am nm cm av nv cv ak ns cs M V S,v=.agg #[iT q,.slice am nm cm,.slice av nv cv,.slice ak ns cs]∧cj lo w am nm cm av nv cv ak ns cs M V S
def Fj (w:World) (e:Ending) (w':World):Prop:=∃q am nm cm av nv cv ak ns cs,e=.returned (.agg #[iT q,.slice am nm cm,.slice av nv cv,.slice ak ns cs])∧dg w.heap.size w' (.agg #[iT q,.slice am nm cm,.slice av nv cv,.slice ak ns cs])∧Bl w w'∧qL (.agg #[iT q,.slice am nm cm,.slice av nv cv,.slice ak ns cs])∧Fg w.heap.size w' (.agg #[iT q,.slice am nm cm,.slice av nv cv,.slice ak ns cs])
theorem EW (lo:Nat) (v:Value) (w:World) (h:dg lo w v):Calls Tryz.prog 57 #[v] w (Fj w):=by
 obtain ⟨q,s,nm,E,G,c,y,ns,cs,I,H,e1,n1,d1,e2,n2,d2,M,A,B,C,S,rfl,m,htb⟩:=h;have hM:=(aZ htb.1).2.2.1;have hS:=l8 htb.1;have r:=m.mem.len;have hsl:=m.sn.length;refine (iK 0 q s _ y nm E 3 c ns cs M [A,B,C] S w m.treeIn (by omega) (by omega) (by omega) (oR htb.1)).mono ?_;rintro e w' ⟨g1,c1,x,c',g3,c3,rfl,hC,hb⟩;obtain ⟨o,b,D,F,u,t,f⟩:=hC.trS (Fv _);exact ⟨q,_,_,_,_,_,_,_,_,_,rfl,⟨q,_,_,_,x,c',_,_,_,o,b,D,_,F,u,_,t,M,A,B,C,S,rfl,f,htb⟩,hb,⟨q,_,_,_,_,_,_,_,_,_,rfl⟩,⟨q,_,_,_,_,_,_,_,_,_,_,_,_,rfl,hC.treeIn⟩⟩
def Ff (R:Nat) (a:Option Addr) (len cap P d:Nat) (w:World) (e:Ending) (w':World):Prop:=∃v P',e=.returned v∧dg w.heap.size w' v∧bj w' R a len cap P'∧P'≤P+d∧w.grownBy w' (some R)∧qL v∧Fg w.heap.size w' v
theorem Af {R:Option Nat} (h:ir w.heap.size R w w'):w.grownBy w' R:=⟨h.os,h.tape,h.output,h.size,fun k hk hn=>h.block k hk hn (.inl hk)⟩
def Fi (z:Int):Prop:=0≤z∧z≤24
theorem EH.parts {e:Ending} (h:EH w e w'):∃q r nm m f o s b ns cs,e=.returned (.agg #[iT q,.slice r nm m,.slice f o s,.slice b ns cs])∧dg w.heap.size w' (.agg #[iT q,.slice r nm m,.slice f o s,.slice b ns cs])∧Bl w w':=by
 obtain ⟨v,rfl,hg,hl⟩:=h;obtain ⟨q,r,nm,m,f,o,s,b,ns,cs,rfl⟩:=hg.val;exact ⟨q,r,nm,m,f,o,s,b,ns,cs,rfl,hg,hl⟩
theorem EK.parts {R:Nat} {a:Option Addr} {e:Ending} (h:EK lo R a len cap P d w e w'):∃q m nm t s r o b ns cs f,e=.returned (.agg #[iT q,.slice m nm t,.slice s r o,.slice b ns cs])∧dg lo w' (.agg #[iT q,.slice m nm t,.slice s r o,.slice b ns cs])∧bj w' R a len cap f∧f≤P+d∧ir lo (some R) w w':=by
 obtain ⟨v,f,rfl,hg,h1,h2,h3⟩:=h;obtain ⟨q,m,nm,t,s,r,o,b,ns,cs,rfl⟩:=hg.val;exact ⟨q,m,nm,t,s,r,o,b,ns,cs,f,rfl,hg,h1,h2,h3⟩
theorem xi (R P:Nat) (a:Option Addr) (len cap:Nat) (w:World) (h:bj w R a len cap P) (a8:sY a len R) (hP:P<60000) :
 Calls Tryz.prog 74 #[.pointer (pT R)] w (Ff R a len cap P 6000 w):=by
 obtain ⟨Z,hZ⟩:=aG w.heap.size;obtain ⟨W,hW⟩:=aG (w.alloc (.cells #[iT 0,nZ,nZ,nZ] 31));have kW:Bl w W:=by rw [hW];exact bZ
 have br:aE W Z (iT 0) nZ nZ nZ∧ay W Z 31 4:=by rw [hW,hZ];exact ⟨aE.new _ _ _ _ _ _,cP w #[iT 0,nZ,nZ,nZ] 31⟩
 have aQ:=h.lt;have J:Eq (aE W Z (iT 0) nZ nZ nZ∧ay W Z 31 4∧w.heap.size≤Z):=⟨br.1,br.2,Nat.le_of_eq hZ.symm⟩;have aR:Eq (bj W R a len cap P):=h.below kW;have I:Eq (Bl w W):=kW;have aO:=bT a8;clear h a8 br kW;go_enter Tryz.func74,Tryz.ntmps74
 go_wp2_with fail
 rw [← hW,← hZ];clear hW hZ;refine (Fe W).mono ?_;rintro e w1 hN;obtain ⟨q,am,nm,cm,av,nv,cv,ak,ns,cs,rfl,au,H⟩:=hN.parts;obtain ⟨X,hX⟩:=aG w1.heap.size;obtain ⟨w2,K⟩:=aG (w1.alloc (.cells #[iT q,.slice am nm cm,.slice av nv cv,.slice ak ns cs] 31));have S0:Eq (lU w.heap.size R a len cap P w w2 X Z q am nm cm av nv cv ak ns cs):=by
  have k2:Bl w1 w2:=by rw [K];exact bZ
  have bi:=J.o.1.lt;have aL:=H.size;refine ⟨(aR.o.below H).below k2,by rw [K,hX];exact aE.new _ _ _ _ _ _,(J.o.1.keep H).keep k2,⟨by rw [K,hX];exact cP w1 #[iT q,.slice am nm cm,.slice av nv cv,.slice ak ns cs] 31,(J.o.2.1.below H).below k2⟩,?_,ir.of ((I.o.trans (H.mono I.o.size)).trans (k2.mono (FK I.o.size aL))),Fv _,?_,aQ,aO.o,J.o.2.2,?_⟩
  · obtain ⟨q',U,Q,Y,G,c,O,a0,a4,gA,dA,e1,n1,d1,e2,n2,d2,M,A,B,C,S,e,hT,htb⟩:=au.below k2;exact ⟨q',U,Q,Y,G,c,O,a0,a4,gA,dA,e1,n1,d1,e2,n2,d2,M,A,B,C,S,e,hT.mono I.o.size,htb⟩
  · rw [hX];exact FK I.o.size aL
  · rw [hX];omega
 clear hN au H J aR I;go_upto_region 2 with fail
 rw [← K,← hX];clear K hX;go_wp2_with fail
 have kc:Bl w2 (w2.alloc (.cells ((([4,8,12,18,24,2,0]:List Int).map iT).toArray) 3)):=bZ;refine (dV Fi R P a len cap w2.heap.size 0 7 7 _ (S0.o.rd.below kc) (by omega) (by omega) (by omega) (by have:=S0.o.rd.lt;omega) (by simp) (dH w2 3 [4,8,12,18,24,2,0] Fi ?_)).mono ?_
 · intro s hs;simp only [FF,F4,or_false] at hs;rcases hs with rfl | rfl | rfl | rfl | rfl | rfl | rfl <;> (unfold Fi;omega)
 rintro e w3 ⟨z,rfl,hz,aw,aT⟩;have S3:Eq (lU w.heap.size R a len cap (P+1) w w3 X Z q am nm cm av nv cv ak ns cs):=(S0.o.below kc).read aT aw;obtain ⟨N,rfl⟩:=Gq hz.1;have hN:N≤24:=by have:=hz.2;omega
 clear kc aw aT hz S0;go_wp2;go_loopw [4] (fun iv wr=>∃(i P':Nat) (q:Int) (am:Option Addr) (nm cm:Nat) (av:Option Addr) (nv cv:Nat) (ak:Option Addr) (ns cs:Nat),iv=iT (i:Int)∧i≤N∧P'≤P+1+210*(N - i)∧lU w.heap.size R a len cap P' w wr X Z q am nm cm av nv cv ak ns cs) (fun iv _=>(intOf iv).toNat)
 case atStart=>exact ⟨N,P+1,q,am,nm,cm,av,nv,cv,ak,ns,cs,rfl,Fv _,by omega,S3.o⟩
 case round =>
  clear S3;obtain ⟨i,P',q1,ax,ai,aN,aH,aj,aC,aS,ap,aI,rfl,hi,bk,hS⟩:=hrel;have S:Eq (lU w.heap.size R a len cap P' w wr X Z q1 ax ai aN aH aj aC aS ap aI):=hS;have x0:=hS.bx.all;clear hS;by_cases bg:0<i
  · have aM:(i:Int) > 0:=by omega
    have bl:IntKind.i64.wrap ((i:Int) - 1)=(i:Int) - 1:=by rw [FQ];unfold wrap64;omega
    have bc:P'<80000:=by have:210*(N - i)≤210*24:=Nat.mul_le_mul_left _ (by omega);omega
    go_wp2_with fail
    clear x0;refine (zN R P' w.heap.size a len cap _ _ S.o.rd aO.o bc aQ S.o.low.size S.o.good).mono ?_;rintro e w4 hA;obtain ⟨q2,u,m,y,x,D,t,f,E,r,P2,rfl,aA,al,bn,az⟩:=hA.parts;obtain ⟨aq,ao⟩:=S.o.acted az al aA;have S2:=bT ao;have x0:=aq.all;clear hA aA al az ao S aq;go_wp2;go_roundw
    case rel =>
     have e3:N - (i - 1)=N - i+1:=by omega
     exact ⟨i - 1,P2,q2,u,m,y,x,D,t,f,E,r,by rw [show ((i - 1:Nat):Int)=(i:Int) - 1 by omega],by omega,by rw [e3,Nat.mul_add];omega,S2.o⟩
    case measure=>simp [intOf];omega
  · have aM:¬(i:Int) > 0:=by omega
    have bb:P'≤P+6000:=by have:210*(N - i)≤210*24:=Nat.mul_le_mul_left _ (by omega);omega
    go_wp2_with fail
    clear x0;refine (EW w.heap.size _ _ S.o.good).mono ?_;rintro e w5 ⟨q2,u,m,y,x,D,t,f,E,r,rfl,aP,an,aK,aF⟩;have aD:Eq (Fg wr.heap.size w5 (.agg #[iT q2,.slice u m y,.slice x D t,.slice f E r])):=aF;have a6:Eq (Z<wr.heap.size):=S.o.br.lt;have b8:Eq (qL (.agg #[iT q2,.slice u m y,.slice x D t,.slice f E r])):=aK;have S5:Eq (lU w.heap.size R a len cap P' w w5 X Z q1 ax ai aN aH aj aC aS ap aI):=S.o.below an;have b4:Eq (dg wr.heap.size w5 (.agg #[iT q2,.slice u m y,.slice x D t,.slice f E r])):=aP;have ar:Eq (w.heap.size≤wr.heap.size):=S.o.low.size;have r0:=S5.o.br.all;clear aK aP an S aF;go_wp2;refine bodyPost_ret (v:=.agg #[iT q2,.slice u m y,.slice x D t,.slice f E r]) ?_ rfl ⟨_,P',rfl,?_,?_,bb,?_,b8.o,?_⟩
    · have e:=(((S5.o.br.set0 (iT q2)).set1 (.slice u m y)).set2 (.slice x D t)).set3 (.slice f E r);simp [results,Tryz.results74,go_sem,e.all]
    · obtain ⟨q',U,Q,Y,G,c,O,a0,a4,gA,dA,e1,n1,d1,e2,n2,d2,M,A,B,C,T,e,hT,htb⟩:=b4.o.four (q:=q2) (a1:=u) (m1:=m) (k1:=y) (a2:=x) (m2:=D) (k2:=t) (a3:=f) (m3:=E) (k3:=r) S5.o.kx.2 S5.o.br;exact ⟨q',U,Q,Y,G,c,O,a0,a4,gA,dA,e1,n1,d1,e2,n2,d2,M,A,B,C,T,e,hT.mono ar.o,htb⟩
    · have ht:=S5.o.top;have a7:Z≠R:=by omega
      have F:∀b ag,a=some ⟨b,ag,none⟩→0<len→b≠Z:=fun b ag e hl=>by
       rcases ht.2.2.2.1 with h0 | h0
       · omega
       · have:=h0 b ag e;omega
      exact (((S5.o.rd.other a7 F _ _).other a7 F _ _).other a7 F _ _).other a7 F _ _
    · have ht:=S5.o.top;exact Af (S5.o.low.four ht.2.2.2.2.1 ht.2.2.2.2.1 _ _ _ _)
    · obtain ⟨q',U,Q,Y,b6,ba,bd,O,a0,a4,M,V,T,e,hT⟩:=aD.o;exact ⟨q',U,Q,Y,b6,ba,bd,O,a0,a4,M,V,T,e,(hT.same ((((iq.of_set _ _ a6.o).trans (iq.of_set _ _ a6.o)).trans (iq.of_set _ _ a6.o)).trans (iq.of_set _ _ a6.o))).lowR ar.o⟩
def jB (R:Nat) (w w':World):Prop:=w.heap.size≤w'.heap.size∧∀b,b<w.heap.size→b≠R→¬ay w b 31 4→w'.heap[b]?=w.heap[b]?
theorem jB.refl (R:Nat) (w:World):jB R w w:=⟨Fv _,fun _ _ _ _=>rfl⟩
theorem jB.trans {R:Nat} {a b c:World} (h:jB R a b) (k:jB R b c):jB R a c :=
 ⟨FK h.1 k.1,fun i hi hR hn=>(k.2 i (u' hi h.1) hR (fun hB=>hn (hB.same (h.2 i hi hR hn).symm))).trans (h.2 i hi hR hn)⟩
theorem jB.grown {R:Nat} (h:w.grownBy w' (some R)):jB R w w':=⟨h.size,fun b hb hR _=>h.block b hb (fun e=>hR (Fx e))⟩
theorem jB.below {R:Nat} (h:Bl w w'):jB R w w':=⟨h.size,fun b hb _ _=>h.block b hb⟩
theorem jB.set {R:Nat} (h:ay w X 31 4) (o:Nat) (u:Value):jB R w (w.setCell ⟨X,o,none⟩ u):=⟨by simp [World.setCell],fun b _ _ hn=>Below.heap_setCell _ _ _ _ (fun e=>by subst e;exact hn h)⟩
theorem jB.four {R:Nat} (h:ay w X 31 4) (u0 u1 u2 u3:Value):jB R w ((((w.setCell ⟨X,0,none⟩ u0).setCell ⟨X,1,none⟩ u1).setCell ⟨X,2,none⟩ u2).setCell ⟨X,3,none⟩ u3) :=
 (((jB.set h 0 u0).trans (jB.set (h.setCell _) 1 u1)).trans (jB.set ((h.setCell _).setCell _) 2 u2)).trans (jB.set (((h.setCell _).setCell _).setCell _) 3 u3)
theorem jB.keep {R T sz:Nat} (k:jB R w w') (hg:ay w g T sz) (b:T≠31) (hR:R<g):w'.heap[g]?=w.heap[g]?:=k.2 g hg.lt (by omega) (fun h=>b (hg.kind h))
theorem Bq {e m c:Nat} (h:w.ownsRow base e size (sL g m c) n xs) (hb:w'.heap[g]?=w.heap[g]?):w'.ownsRow base e size (sL g m c) n xs:=by
 refine ⟨h.1,?_⟩;rcases h.2 with ⟨h',_⟩ | ⟨g',cap,b,h',q1,q2,q3⟩
 · simp at h'
 · have e:g=g':=by simp only [Value.slice.injEq,G2,Addr.mk.injEq,and_true] at h';exact h'.1
   subst e;exact .inr ⟨g,cap,b,h',q1,hb.trans q2,q3⟩
theorem jI {R:Nat} {e m c:Nat} (h:w.ownsRow base e size (sL g m c) n xs) (b:e≠31) (hR:R<base) (k:jB R w w'):w'.ownsRow base e size (sL g m c) n xs:=by
 obtain ⟨sz,f⟩:=aS h;exact Bq h (k.keep f b (u' hR (h.lt g rfl).1))
theorem ag.kp {R:Nat} {c:Nat} (h:ag w base g n c L) (hR:R<base) (k:jB R w w'):ag w' base g n c L:=⟨jI h.owns (by decide) hR k,h.len,h.ents⟩
theorem bw.kp {R:Nat} {c:Nat} (h:bw base w g n c B) (hR:R<base) (k:jB R w w'):bw base w' g n c B:=by
 obtain ⟨h1,h2,xs,h3,h4⟩:=h;exact ⟨h1,h2,xs,jI h3 (by decide) hR k,fun i p hp=>by obtain ⟨e,d,a1,a2,a3⟩:=h4 i p hp;exact ⟨e,d,a1,a2,a3.kp hR k⟩⟩
def AO (R:Nat) (w:World) (a:Option Addr) (n c:Nat) (B:List aj):Prop:=∀w',jB R w w'→az 0 w' a n c B
theorem bw.lvQ {R:Nat} {c:Nat} (h:bw base w g n c B) (hR:R<base):AO R w (pT g) n c B:=fun _ k=>(h.kp hR k).runsIn.mono (FB _)
theorem AO.kp {R:Nat} {a:Option Addr} {c:Nat} (h:AO R w a n c B) (k:jB R w w'):AO R w' a n c B:=fun b k2=>h b (k.trans k2)
def qP (w:World) (av:Option Addr) (V:List (List aj)):Prop:=∀(i:Nat) (B:List aj),V[i]?=some B→∃b e n c,av=some ⟨b,0,none⟩∧w.cell? ⟨b,i,none⟩=some (sL e n c)
theorem pP {c:Nat} (hr:w.ownsRow base 61 1 (sL G 3 c) 3 [sL s0 n0 d0,sL s1 n1 d1,sL s2 n2 d2]) (hV:V.length≤3):qP w (pT G) V:=fun i B hB=>by
 have hi:=(E'.1 hB).1
 rcases (by omega:i=0∨i=1∨i=2) with rfl | rfl | rfl
 · exact ⟨G,_,_,_,rfl,hr.cellAt 0 (by omega)⟩
 · exact ⟨G,_,_,_,rfl,hr.cellAt 1 (by omega)⟩
 · exact ⟨G,_,_,_,rfl,hr.cellAt 2 (by omega)⟩
def C9 (R:Nat) (w:World) (am:Option Addr) (nm cm:Nat) (av:Option Addr) (nv cv:Nat) (ak:Option Addr) (ns cs:Nat) (M:List ae) (V:List (List aj)) (S:List Int):Prop:=∀w',jB R w w'→cj 0 w' am nm cm av nv cv ak ns cs M V S∧qP w' av V
theorem C9.kp {R:Nat} {o:Option Addr} {m:Nat} {e:Option Addr} {f r:Nat} {b:Option Addr} {cs:Nat} (h:C9 R w o nm m e f r b ns cs M V S) (k:jB R w w'):C9 R w' o nm m e f r b ns cs M V S:=fun s k2=>h s (k.trans k2)
theorem jK {R:Nat} {c:Nat} (hm:ag w base g1 nm c1 M) (hrow:w.ownsRow base 61 1 (sL G 3 c) 3 [sL s0 n0 d0,sL s1 n1 d1,sL s2 n2 d2]) (h0:AO R w (pT s0) n0 d0 A) (h1:AO R w (pT s1) n1 d1 B) (h2:AO R w (pT s2) n2 d2 C)
 (hsn:w.ownsRow base 3 1 (sL g3 ns c3) ns (S.map iT)) (hsl:S.length=ns) (hsw:∀z ∈ S,(Lit.int .i64 z).wf=true) (hR:R<base):C9 R w (pT g1) nm c1 (pT G) 3 c (pT g3) ns c3 M [A,B,C] S:=fun w' k=>by
 have hr:=jI hrow (by decide) hR k
 have hc:=cZ hr
 exact ⟨⟨⟨(hm.kp hR k).entsAt,fun _ _ _=>FB _⟩,jN hc.1 hc.2 (hr.cellAt 0 (by omega)) (hr.cellAt 1 (by omega)) (hr.cellAt 2 (by omega)) (h0 w' k) (h1 w' k) (h2 w' k),(jm (jI hsn (by decide) hR k) hsl hsw).lower (FB _)⟩,pP hr (by simp)⟩
theorem Dp {R:Nat} {c:Nat} (hm:ag w base g1 nm c1 M) (hrow:w.ownsRow base 61 1 (sL G 3 c) 3 [sL s0 n0 d0,sL s1 n1 d1,sL s2 n2 d2]) (h0:AO R w (pT s0) n0 d0 A) (h1:AO R w (pT s1) n1 d1 B) (h2:AO R w (pT s2) n2 d2 C)
 (hsn:w.ownsRow base 3 1 (sL g3 ns c3) ns (S.map iT)) (hsl:S.length=ns) (hsw:∀z ∈ S,(Lit.int .i64 z).wf=true) (hR:R<base):C9 R w (pT g1) nm c1 (pT G) 2 c (pT g3) ns c3 M [A,B] S:=fun w' k=>by
 have h:=(jK hm hrow h0 h1 h2 hsn hsl hsw hR w' k).1
 refine ⟨⟨h.mem,⟨rfl,by have:=h.levels.room;omega,h.levels.big,(fun e=>by cases e),fun x e _=>h.levels.lies x e (by omega),fun x e i hi=>?_⟩,h.snaps⟩,pP (jI hrow (by decide) hR k) (by simp)⟩
 have b:i<2:=hi
 rcases (by omega:i=0∨i=1) with rfl | rfl
 · exact h.levels.levels x e 0 (by show 0<3;omega)
 · exact h.levels.levels x e 1 (by show 1<3;omega)
def EG (M:List ae) (V:List (List aj)):Prop:=o9 M∧∀B ∈ V,nR B
theorem mG.all (h:mG M A B C):EG M [A,B,C]:=⟨h.1,fun Z b=>by
 simp only [FF,F4,or_false] at b
 rcases b with rfl | rfl | rfl
 · exact h.2.1
 · exact h.2.2.1
 · exact h.2.2.2⟩
def eI (lo R:Nat) (w:World) (v:Value):Prop:=dg lo w v∨∃q am nm cm av nv cv ak ns cs M V S,v=.agg #[iT q,.slice am nm cm,.slice av nv cv,.slice ak ns cs]∧(Lit.int .i64 q).wf=true∧C9 R w am nm cm av nv cv ak ns cs M V S∧ns≤100∧EG M V
theorem eI.below {R:Nat} (h:eI lo R w v) (hb:Bl w w'):eI lo R w' v:=by
 rcases h with h | ⟨q,m,nm,t,s,r,o,f,ns,cs,M,V,S,e,hq,h,b⟩
 · exact .inl (h.below hb)
 · exact .inr ⟨q,m,nm,t,s,r,o,f,ns,cs,M,V,S,e,hq,h.kp (jB.below hb),b⟩
theorem eI.read {R:Nat} {u:Option Addr} (h:eI lo R w v) (hR:bj w R u len cap P) (hl:R<lo) (hg:w.grownBy w' (some R)):eI lo R w' v:=by
 rcases h with h | ⟨q,m,nm,t,s,r,o,f,ns,cs,M,V,S,e,hq,h,b⟩
 · exact .inl (h.read hR hl hg)
 · exact .inr ⟨q,m,nm,t,s,r,o,f,ns,cs,M,V,S,e,hq,h.kp (jB.grown hg),b⟩
theorem eI.four {R:Nat} {q z:Int} {a1 a2 a3 b1 b2 b3:Option Addr} {m1 k1 m2 k2 m3 k3 m r t x E u:Nat} (h:eI lo R w v) (hk:ay w X 31 4) (y:aE w X (iT z) (.slice b1 m r) (.slice b2 t x) (.slice b3 E u)):eI lo R ((((w.setCell ⟨X,0,none⟩ (iT q)).setCell ⟨X,1,none⟩ (.slice a1 m1 k1)).setCell ⟨X,2,none⟩ (.slice a2 m2 k2)).setCell ⟨X,3,none⟩ (.slice a3 m3 k3)) v:=by
 rcases h with h | ⟨q,f,nm,H,F,s,o,D,ns,cs,M,V,S,e,hq,h,b⟩
 · exact .inl (h.four hk y)
 · exact .inr ⟨q,f,nm,H,F,s,o,D,ns,cs,M,V,S,e,hq,h.kp (jB.four hk _ _ _ _),b⟩
theorem eI.val {R:Nat} (h:eI lo R w v):EY v:=by
 rcases h with h | ⟨q,f,nm,o,r,s,m,e,ns,cs,M,V,S,rfl,hq,h,b⟩
 · exact h.val
 · exact ⟨_,_,_,_,_,_,_,_,_,_,rfl⟩
theorem eI.treeIn {R:Nat} (h:eI lo R w v):∃q b nm f m r o e ns cs M V S,v=.agg #[iT q,.slice b nm f,.slice m r o,.slice e ns cs]∧(Lit.int .i64 q).wf=true∧cj 0 w b nm f m r o e ns cs M V S∧qP w m V∧ns≤100∧EG M V:=by
 rcases h with h | ⟨q,b,nm,f,m,r,o,e,ns,cs,M,V,S,rfl,hq,h,t⟩
 · obtain ⟨q,b,nm,f,G,c,e,ns,cs,x,u,e1,n1,d1,e2,n2,d2,M,A,B,C,S,rfl,s,htb⟩:=h;have hq:=aZ htb.1;exact ⟨q,b,nm,f,_,3,c,e,ns,cs,M,_,S,rfl,FW (by omega),s.treeIn,pP s.row (by simp),by have h1:=s.treeIn.snaps.length;have h2:=(f7.1 hq.2.2.2.2.2.2.1).1;omega,htb.2.all⟩
 · exact ⟨q,b,nm,f,m,r,o,e,ns,cs,M,V,S,rfl,hq,(h _ (jB.refl _ _)).1,(h _ (jB.refl _ _)).2,t⟩
theorem BC {α:Type} (c news:List α) (K T j:Nat) (hK:K+news.length≤c.length):((c.take K++news++c.drop (K+news.length)).take T)[j]?=if K≤j∧j<K+news.length∧j<(c.take T).length then news[j - K]? else (c.take T)[j]?:=by
 by_cases b:j<T
 · rw [Hv,if_pos b,Hv,if_pos b];by_cases h1:j<K
   · rw [if_neg (by omega),FT,FE (by rw [FC];omega),Hv,if_pos h1]
   · by_cases h2:j<K+news.length
     · rw [if_pos ⟨by omega,h2,by rw [FC];omega⟩,FT,Fz (by rw [FC];omega),FE (by rw [FC];omega),FC];congr 1
       omega
     · rw [if_neg (by omega),Fz (by rw [Fy,FC];omega),Gg,Fy,FC];congr 1
       omega
 · rw [Hv,if_neg b,if_neg (by rw [FC];omega),Hv,if_neg b]
def DU (w w':World) (g k:Nat) (news:List Value):Prop :=
 ∀(base' e' size' n2 c2:Nat) (ys:List Value),w.ownsRow base' e' size' (sL g n2 c2) n2 ys→∃ys',w'.ownsRow base' e' size' (sL g n2 c2) n2 ys'∧∀j,ys'[j]?=if k≤j∧j<k+news.length∧j<ys.length then news[j - k]? else ys[j]?
def Db (w w':World) (g g' k:Nat) (news:List Value):Prop:=(g'=w.heap.size∧Bl w w')∨(g'=g∧DU w w' g k news)
theorem qZ {P:Program} (w:World) (base:Nat) (t H e:TypeId) (i:TypeInfo) (z:Value) (size bytes:Nat) (U:P.underlying t=some (.slice e)) (hi:P.info? e=some i) (hz:i.zero=some z)
 (hsize:i.size=size) (hby:i.bytes=bytes) (hzs:z.cells.size=size) (hsz:0<size)
 (g n c0:Nat) (xs:List Value) (hown:w.ownsRow base e size (sL g n c0) n xs)
 (a:Addr) (m c:Nat) (news:List Value) (hl:news.length=m*size) (hnews:∀j u,news[j]?=some u→w.cell? (a.add j)=some u) (h1:∀u ∈ news,u.oneCell'=true)
 (h63:n+m≤maxLen) (hbytes:(n+m)*bytes≤140737488355328) (hbase:base≤w.heap.size) :
 ∃O c' w',(Builtin.append_ #[t,t] H #[sL g n c0,.slice (some a) m c]).run P w=.ok (sL O (n+m) c') w'∧w'.ownsRow base e size (sL O (n+m) c') (n+m) (xs++news)∧w.grownBy w' (some g)∧Db w w' g O (n*size) news:=by
 subst hsize;subst hby
 have D:n+m≤9223372036854775807:=by simp only [maxLen] at h63;omega
 have hlen:(xs++news).length=(n+m)*i.size:=by rw [Fy,hown.1,hl,Nat.add_mul]
 have r:∀j u,xs[j]?=some u→w.cell? ((⟨g,0,none⟩:Addr).add j)=some u:=hown.cells (g:=g) rfl;have hx:=hown.1;rcases hown.2 with ⟨h,_⟩ | ⟨g0,cap,b,hv,F,hg,W,E,I,o⟩
 · cases h
 · cases hv;by_cases hroom:n+m≤c0
   · have f:n*i.size+news.length≤b.size:=by rw [hl,I,← Nat.add_mul];exact Nat.mul_le_mul_right _ hroom
     have hr:=run_append_room (P:=P) w t H e i U hi g n c0 b hg a m c news hl hnews h1 hroom f;refine ⟨g,c0,_,hr,⟨hlen,.inr ⟨g,c0,_,rfl,F,setRow_heap w g b _ e _ hg,hroom,E,?_,?_⟩⟩,⟨rfl,rfl,rfl,by simp,fun k _ hk=>setRow_other w g k _ (fun e=>hk (by rw [e]))⟩,.inr ⟨rfl,?_⟩⟩
     · simp only [GF,Fy,FC,FN,Array.length_toList];omega
     · rw [o,← hlen];exact List.take_left
     · intro base' e' size' n2 c2 ys ho;have Y:=ho.1;rcases ho.2 with ⟨h,_⟩ | ⟨g1,T,R,hv1,J,s,y,N,Z,Q⟩
       · cases h
       · cases hv1;rw [hg] at s;cases s;have hK:n*i.size+news.length≤b.toList.length:=by rw [Array.length_toList];exact f
         refine ⟨(b.toList.take (n*i.size)++news++b.toList.drop (n*i.size+news.length)).take (n2*size'),⟨?_,.inr ⟨g,c2,_,rfl,J,setRow_heap w g b _ e _ hg,y,N,?_,rfl⟩⟩,fun j=>?_⟩
         · have h2:n2*size'≤c2*size':=Nat.mul_le_mul_right _ y;simp only [Fy,FC,FN,Array.length_toList];omega
         · simp only [GF,Fy,FC,FN,Array.length_toList];omega
         · rw [BC _ _ _ _ _ hK,Q]
   · have hr:=run_append_grow (P:=P) w t H e i z U hi hz ⟨g,0,none⟩ n c0 xs hown.1 r a m c news hl hnews (by omega) (by omega) (growslice_fits (by omega) hbytes);have K:=grownCap_ge w (n+m) c0 e;have x:grownCap w (n+m) c0 e≤maxLen:=grownCap_le_maxLen w (n+m) c0 e h63;refine ⟨_,_,_,hr,⟨hlen,.inr ⟨w.heap.size,_,_,rfl,hbase,heap_alloc_new w.drew _,K,x,?_,?_⟩⟩,⟨rfl,rfl,rfl,by simp,fun k hk _=>(by first | exact heap_alloc_old w.drew _ k hk | exact heap_alloc_old w.drew _ hk)⟩,.inl ⟨rfl,?_⟩⟩
     · simp only [Array.size_append,GF,size_zeroCells,hzs,hown.1,hl,← Nat.add_mul];congr 1
       omega
     · simp only [Array.toList_append,FT];rw [← FT,← hlen];exact List.take_left
     · exact (Below.refl _ w).drew.alloc (Fv _) _
theorem fI {P:Program} {r:Array Oper} {o:Oper} {a:Act} {w:World} {K:Act→World→Prop} {Q:Exit→Act→World→Prop} {E:Prop}
 (hg:o.guard=none) (s x:Operand) (t:TypeId) (hop:o.op=Op.call { callee:=Callee.builtin Builtin.append,args:=#[s,x],argTypes:=#[t,t] })
 (base:Nat) (e:TypeId) (i:TypeInfo) (z:Value) (size bytes:Nat) (h1:P.underlying t=some (.slice e)) (h2:P.info? e=some i) (h3:i.zero=some z) (h4:i.size=size) (h5:i.bytes=bytes) (h6:z.cells.size=size) (h7:0<size)
 (g n c0:Nat) (olds:List Value) (hs:a.eval s=sL g n c0) (hown:w.ownsRow base e size (sL g n c0) n olds)
 (ad:Addr) (m c:Nat) (news:List Value) (hx:a.eval x=.slice (some ad) m c) (hn:news.length=m*size) (hc:∀j u,news[j]?=some u→w.cell? (ad.add j)=some u) (h1c:∀u ∈ news,u.oneCell'=true)
 (b1:n+m≤maxLen) (b2:(n+m)*bytes≤140737488355328) (b3:base≤w.heap.size)
 (hK:∀f c' w',w'.ownsRow base e size (sL f (n+m) c') (n+m) (olds++news)→w.grownBy w' (some g)→Db w w' g f (n*size) news→K (a.put o.dst (sL f (n+m) c')) w') :
 if Region.wanted o (yielded r a.tmps)=true then Oper.wp P o a w K Q else E:=by
 have hw:Region.wanted o (yielded r a.tmps)=true:=by simp [Region.wanted,hg]
 rw [if_pos hw];obtain ⟨f,c',w',b,y,r2,r3⟩:=qZ (P:=P) w base t o.type e i z size bytes h1 h2 h3 h4 h5 h6 h7 g n c0 olds hown ad m c news hn hc h1c b1 b2 b3;unfold Oper.wp;simp [execOp,hop,resolve,invoke,builtin,hs,hx,b,Result.andThen];exact hK f c' w' y r2 r3
theorem bw.beside {b D h e r:Nat} {m:Int} (hB:bw b w h n d B) (hA:bw b w g n0 d0 A) (hg:w.grownBy w' (some g)) (hat:Db w w' g D (n0*2) [sL e L.length r,iT m]) (hL:ag w b e L.length r L) (hm:(Lit.int .i64 m).wf=true):∃x,bw b w' h n d x∧∀p ∈ x,p ∈ B∨p=(L,m):=by
 rcases hat with ⟨_,hb⟩ | ⟨rfl,ho⟩
 · exact ⟨B,hB.below hb,fun _ h=>.inl h⟩
 obtain ⟨_,_,E,a3,_⟩:=hA;obtain ⟨N,y⟩:=aS a3;by_cases o:h=D
 · subst o;obtain ⟨h1,h2,xs,h3,h4⟩:=hB;obtain ⟨J,q1,q2⟩:=ho _ _ _ _ _ _ h3;have H:=h3.1;have f:∀{e d:Nat} {L:List ae},ag w b e L.length d L→ag w' b e L.length d L:=fun {e d L} hO=>by
    obtain ⟨K,F⟩:=aS hO.owns;refine hO.grown hg (fun u=>?_);have s:e=h:=Fx u;subst s;exact absurd (y.kind F) (by decide)
   refine ⟨B.set n0 (L,m),⟨by rw [H9];exact h1,fun p hp=>?_,J,q1,fun i p hp=>?_⟩,fun _ hp=>Ho hp⟩
   · rcases Ho hp with h | h
     · exact h2 p h
     · rw [h];exact hm
   · have t:i<B.length:=by have:=(E'.1 hp).1;rwa [H9] at this
     by_cases hi:i=n0
     · subst hi;rw [Gu t] at hp;cases hp;refine ⟨e,r,?_,?_,f hL⟩
       · rw [q2,if_pos ⟨Fv _,by simp,by omega⟩,G5];rfl
       · rw [q2,if_pos ⟨by omega,by simp,by omega⟩,show i*2+1 - i*2=1 by omega];rfl
     · rw [F3 (Ne.symm hi)] at hp;obtain ⟨u,I,a1,a2,a4⟩:=h4 i p hp;refine ⟨u,I,?_,?_,f a4⟩
       · rw [q2,if_neg (by simp;omega)];exact a1
       · rw [q2,if_neg (by simp;omega)];exact a2
 · exact ⟨B,hB.grownR y o hg,fun _ h=>.inl h⟩
end Go.Proofs.YtpobkmjicbobdaaGreat
namespace Go.Proofs.YtpobkmjicbobdaaGreat
open Go.RowKit
set_option maxRecDepth 100000
set_option maxHeartbeats 8000000
def fU (L:List ae):Prop:=∀e ∈ L,jC e.1 e.2.2.2.1 e.2.1 e.2.2.1 e.2.2.2.2
theorem gk {k t:ByteArray} {q d n:Int} (h:jC k t q d n):dR (k,q,d,t,n):=by
 obtain ⟨h1,h2,h3,h4,h5⟩:=h;exact ⟨by unfold mH at h1;unfold maxLen;simp only;omega,h3,h4,by unfold mH at h2;unfold maxLen;simp only;omega,h5⟩
theorem gN {L:List ae} (h:fU L):∀e ∈ L,dR e:=fun e b=>gk (h e b)
theorem cQ {A B:List ae} (h:fU A) (k:fU B):fU (A++B):=fun e b=>(FI.1 b).elim (h e) (k e)
theorem ch {k t:ByteArray} {q d n:Int} (h:jC k t q d n):fU [(k,q,d,t,n)]:=fun e b=>by
 simp only [FL] at b
 subst b
 exact h
def Eb (R:Nat) (a:Option Addr) (len cap P many:Nat) (w:World) (e:Ending) (w':World):Prop :=
 ∃(g n c P':Nat) (L:List ae),e=.returned (sL g n c)∧ag w' w.heap.size g n c L∧n≤many∧fU L∧bj w' R a len cap P'∧P'≤P+1+8*many∧w.grownBy w' (some R)
theorem ag.gR {w w':World} {base g n c R:Nat} {L:List ae} (h:ag w base g n c L) (hg:w.grownBy w' (some R)) (hR:R<g):ag w' base g n c L:=h.grown hg (fun e=>by cases e;omega)
theorem xr (R P many:Nat) (a:Option Addr) (len cap:Nat) (w:World) (h:bj w R a len cap P) (H:sY a len R) (hP:P<80000) (hm:many≤100) :
 Calls Tryz.prog 230 #[.pointer (pT R),iT many] w (Eb R a len cap P many w):=by
 obtain ⟨i0,hi,al,ak,av⟩:=info_parts Tryz.infoEnt;have aW:=h.lt;have kt:Bl w (w.alloc (.cells #[] 50)):=bZ;have am:Eq (ag (w.alloc (.cells #[] 50)) w.heap.size w.heap.size 0 0 []):=bV w _ (Fv _);have R0:=h.below kt;have G0:w.grownBy (w.alloc (.cells #[] 50)) (some R):=aT kt;have J:=bT H;clear kt h H;go_enter Tryz.func230,Tryz.ntmps230
 go_wp2_with fail
 refine (cu R P a len cap _ _ R0 (by omega) (by omega)).mono ?_;rintro e w1 ⟨q1,rfl,U,R1,g1⟩;have ad:=U.1;have bf:q1≤many:=by have:=U.2 (by omega);omega
 obtain ⟨I0,aP⟩:=Gq ad;subst aP;have ap:Eq (ag w1 w.heap.size w.heap.size 0 0 []):=am.o.gR g1 aW;have au:Eq (w.grownBy w1 (some R)):=af G0 g1;have ac:Eq (bj w1 R a len cap (P+1)):=R1;clear G0 g1 R0 R1 am U ad;go_wp2;go_loopw [5,6,7] (fun ov sv iv wr=>∃(i sq n g c I:Nat) (L:List ae),iv=iT i∧sv=iT sq∧ov=sL g n c∧i+n≤many∧sq≤2*n∧I≤P+1+8*n∧ag wr w.heap.size g n c L∧fU L∧bj wr R a len cap I∧w.grownBy wr (some R)) (fun _ _ iv _=>(intOf iv).toNat)
 case atStart=>exact ⟨I0,0,0,w.heap.size,0,P+1,[],rfl,rfl,rfl,by omega,by omega,by omega,ap.o,(fun e he=>by cases he),ac.o,au.o⟩
 case round =>
  obtain ⟨i,sq,n,g,c,I,L,rfl,rfl,rfl,bi,bk,bp,hO,hF,hR,hG⟩:=hrel;have HO:Eq (ag wr w.heap.size g n c L):=hO;have HF:Eq (fU L):=hF;have HR:Eq (bj wr R a len cap I):=hR;have HG:Eq (w.grownBy wr (some R)):=hG;have bn:=hO.lt;have bg:=hG.size;clear hO hF hR hG ap au ac;by_cases aE:i=0
  · subst aE;go_wp2;go_ret;exact ⟨g,n,c,I,L,rfl,HO.o,by omega,HF.o,HR.o,by omega,HG.o⟩
  · have bm:(0:Int)<(i:Int):=by omega
    have aY:0<i:=by omega
    go_wp2_with fail
    refine (cu R I a len cap _ _ HR.o (by omega) (by omega)).mono ?_;rintro e w2 ⟨q2,rfl,Y,R2,g2⟩;obtain ⟨S2,a4⟩:=Gq Y.1;subst a4;have a4:S2≤1:=by have:=Y.2 (by omega);omega
    have ar:Eq (ag w2 w.heap.size g n c L):=HO.o.gR g2 (by omega);have aq:Eq (w.grownBy w2 (some R)):=af HG.o g2;have aj:Eq (bj w2 R a len cap (I+1)):=R2;have bb:=g2.size;clear R2 g2 Y HO HG HR;go_wp2_with fail
    refine (iA R (I+1) a len cap _ _ aj.o (by omega) (FW (by omega))).mono ?_;rintro e w3 ⟨s,t,q,d,nn,O,rfl,hE,R3,bd,g3⟩;have HE:Eq (jC s t q d nn):=hE;have ao:Eq (ag w3 w.heap.size g n c L):=ar.o.gR g3 (by omega);have a5:Eq (w.grownBy w3 (some R)):=af aq.o g3;have bl:=g3.size;obtain ⟨X,Z⟩:=aG w3.heap.size;obtain ⟨W3,m⟩:=aG (w3.alloc (.cells #[.string s,iT q,iT d,.string t,iT nn] 50));have k3:Bl w3 W3:=by rw [m];exact bZ
    have x0:W3.cell? ⟨X,0,none⟩=some (.string s):=by rw [m,Z];simp
    have x1:W3.cell? ⟨X,1,none⟩=some (iT q):=by rw [m,Z];simp
    have x2:W3.cell? ⟨X,2,none⟩=some (iT d):=by rw [m,Z];simp
    have x3:W3.cell? ⟨X,3,none⟩=some (.string t):=by rw [m,Z];simp
    have x4:W3.cell? ⟨X,4,none⟩=some (iT nn):=by rw [m,Z];simp
    have ai:Eq (bj W3 R a len cap O):=R3.below k3;have N:Eq (ag W3 w.heap.size g n c L):=ao.o.below k3;have K:Eq (w.grownBy W3 (some R)):=af a5.o (aT k3);have ba:R<X:=by omega
    have b6:=k3.size;clear hE R3 g3 ar aq aj ao a5 k3;go_wp2_with fail
    rw [← m,← Z];clear m Z;refine (cu R O a len cap _ _ ai.o (by omega) (by omega)).mono ?_;rintro e f ⟨q4,rfl,a6,R4,F⟩;obtain ⟨S4,aU⟩:=Gq a6.1;subst aU;have y:X≠R:=by omega
    have zX:=Fu _ _ x0;simp only at zX;have y0:=(an F (x:=⟨X,0,none⟩) zX y).trans x0;have y1:=(an F (x:=⟨X,1,none⟩) zX y).trans x1;have y2:=(an F (x:=⟨X,2,none⟩) zX y).trans x2;have y3:=(an F (x:=⟨X,3,none⟩) zX y).trans x3;have y4:=(an F (x:=⟨X,4,none⟩) zX y).trans x4;have aH:=Fu _ _ y0;simp only at aH;have a9:Eq (bj f R a len cap (O+1)):=R4;have r:Eq (ag f w.heap.size g n c L):=N.o.gR F (by omega);have ax:Eq (w.grownBy f (some R)):=af K.o F;have bc:=F.size;have bh:=r.o.lt;clear x0 x1 x2 x3 x4 R4 F ai N K zX a6;have D:Bl f (f.alloc (.cells #[.string s,iT q,iT d,.string t,iT nn] 50)):=bZ;by_cases aR:S4=0
    · subst aR;have aa:Eq (ah (f.alloc (.cells #[.string s,iT q,iT d,.string t,iT nn] 50)) (some ⟨f.heap.size,0,none⟩) 1 1 [(s,q,d,t,nn)]):=df f _ _ _ _ _ (gk HE.o);go_wp2_with (at_builtin;refine wpList_append_own _ rfl _ _ 28 rfl w.heap.size 50 i0 _ 5 56 Tryz.underlying28 hi al ak av rfl (by decide) _ _ _ rfl (r.o.below D).owns ⟨f.heap.size,0,none⟩ 1 1 (aC [(s,q,d,t,nn)]) rfl rfl (bC aa.o) (aO _) (by unfold maxLen;omega) (by omega) (by have:=D.size;omega) ?_)
      intro v' E hown hgrow hnil;obtain ⟨g5,c5,rfl⟩:∃g cap,v'=sL g (n+1) cap:=by
       rcases hown.2 with ⟨hv,h0⟩ | ⟨g,cap,aQ,hv,_⟩
       · omega
       · exact ⟨g,cap,hv⟩
      have b:(f.alloc (.cells #[.string s,iT q,iT d,.string t,iT nn] 50)).grownBy E (some g):=hgrow;have W:Eq (ag E w.heap.size g5 (n+1) c5 (L++[(s,q,d,t,nn)])):=⟨by rw [aL];exact hown,by simp [r.o.len],gN (cQ HF.o (ch HE.o))⟩;have Q:Eq (bj E R a len cap (O+1)):=(a9.o.below D).grown b J.o (fun k e=>by cases e;omega);have T:Eq (w.grownBy E (some R)):=aI (af ax.o (aT D)) (by omega) b;clear hown hgrow b hnil aa D;go_wp2;go_roundw
      case rel=>exact ⟨i - 1,sq+1+S2,n+1,g5,c5,O+1,L++[(s,q,d,t,nn)],by congr 1;omega,by congr 1,rfl,by omega,by omega,by omega,W.o,cQ HF.o (ch HE.o),Q.o,T.o⟩
      case measure=>simp [intOf];omega
    · have ab:¬(S4:Int)=0:=by omega
      have b5:((S4:Int) == 0)=false:=by simpa using ab
      have u:ag (f.alloc (.cells #[.string s,iT q,iT d,.string t,iT nn] 50)) w.heap.size f.heap.size 1 1 [(s,q,d,t,nn)]:=by
       have:=F6 (base:=w.heap.size) (e:=50) (size:=5) f #[.string s,iT q,iT d,.string t,iT nn] 1 (by omega) (by unfold maxLen;omega) rfl;exact ⟨by simpa [aC,aX] using this,rfl,gN (ch HE.o)⟩
      have a8:Eq (ag (f.alloc (.cells #[.string s,iT q,iT d,.string t,iT nn] 50)) w.heap.size f.heap.size 1 1 [(s,q,d,t,nn)]):=u;clear u;go_wp2_with (at_builtin;refine wpList_append_own _ rfl _ _ 28 rfl w.heap.size 50 i0 _ 5 56 Tryz.underlying28 hi al ak av rfl (by decide) _ _ _ rfl a8.o.owns ⟨g,0,none⟩ n c (aC L) rfl (by rw [aV,r.o.len]) (bC (r.o.below D).entsAt) (aO _) (by unfold maxLen;omega) (by omega) (by have:=D.size;omega) ?_)
      intro v' E hown hgrow hnil;obtain ⟨g5,c5,rfl⟩:∃g cap,v'=sL g (1+n) cap:=by
       rcases hown.2 with ⟨hv,h0⟩ | ⟨g,cap,aQ,hv,_⟩
       · omega
       · exact ⟨g,cap,hv⟩
      have b:(f.alloc (.cells #[.string s,iT q,iT d,.string t,iT nn] 50)).grownBy E (some f.heap.size):=hgrow;have W:Eq (ag E w.heap.size g5 (1+n) c5 ([(s,q,d,t,nn)]++L)):=⟨by rw [aL];exact hown,by simp [r.o.len];omega,gN (cQ (ch HE.o) HF.o)⟩;have Q:Eq (bj E R a len cap (O+1)):=(a9.o.below D).grown b J.o (fun k e=>by cases e;omega);have T:Eq (w.grownBy E (some R)):=aI (af ax.o (aT D)) (by omega) b;clear hown hgrow b hnil a8 D;go_wp2;go_roundw
      case rel=>exact ⟨i - 1,sq+1+S2,1+n,g5,c5,O+1,[(s,q,d,t,nn)]++L,by congr 1;omega,by congr 1,rfl,by omega,by omega,by omega,W.o,cQ (ch HE.o) HF.o,Q.o,T.o⟩
      case measure=>simp [intOf];omega
end Go.Proofs.YtpobkmjicbobdaaGreat
namespace Go.Proofs.YtpobkmjicbobdaaGreat
open Go.RowKit
set_option maxRecDepth 100000
set_option maxHeartbeats 8000000
end Go.Proofs.YtpobkmjicbobdaaGreat
namespace Go.Proofs.YtpobkmjicbobdaaGreat
open Go.RowKit
set_option maxRecDepth 100000
set_option maxHeartbeats 8000000
end Go.Proofs.YtpobkmjicbobdaaGreat
namespace Go.Proofs.YtpobkmjicbobdaaGreat
set_option maxRecDepth 100000
set_option maxHeartbeats 40000000
open Go.RowKit
theorem A6 (a:Option Addr) (len cap:Nat) (L:List ae) (w:World) (hL:ah w a len cap L) (hlen:len≤1048576) :
 Calls Tryz.prog 229 #[.slice a len cap] w fun e w'=>∃g c,e=.returned (sL g len c)∧ag w' w.heap.size g len c (bD L)∧Bl w w':=by
 have u:Eq (L.length=len):=hL.length;have Y:=hL.room;have H:=hL.big;unfold maxLen at H;have T:=bT hL;clear hL;have y:ag (w.alloc (.cells #[] 50)) w.heap.size w.heap.size 0 0 (bD (L.take 0)):=bV w _ (Fv _);have I:Eq (ag (w.alloc (.cells #[] 50)) w.heap.size w.heap.size 0 0 (bD (L.take 0))):=y;have N:Bl w (w.alloc (.cells #[] 50)):=bZ;clear y;go_enter Tryz.func229,Tryz.ntmps229
 go_wp2;go_loopw [3,4] (fun Z D wr=>∃(k g c:Nat),k≤len∧D=iT k∧Z=sL g k c∧ag wr w.heap.size g k c (bD (L.take k))∧Bl w wr) (fun _ D _=>len - (intOf D).toNat)
 case atStart=>exact ⟨0,w.heap.size,0,FB _,rfl,rfl,I.o,N⟩
 case round =>
  obtain ⟨k,g,c,hk,rfl,rfl,hO,hb⟩:=hrel;have F:Eq (ag wr w.heap.size g k c (bD (L.take k))):=hO;clear hO;by_cases O:k<len
  · obtain ⟨b,a0,rfl,r⟩:=T.o.form (by omega);obtain ⟨s,q,d,t,n,hg,m,g0,g1,g2,g3,g4⟩:=T.o.ent hb r k O;have W:Eq (L[k]?=some (s,q,d,t,n)):=hg;have Q:Eq (dR (s,q,d,t,n)):=m;have U:b<wr.heap.size:=u' r hb.size;clear hg m;go_wp2_with fail
    refine (tg g k c (bD (L.take k)) s t q d n _ F.o.entsAt F.o.lt.2 (by omega) Q.o).mono ?_;rintro e R ⟨f,c1,rfl,x,E⟩;have J:Eq (ag R w.heap.size f (k+1) c1 (bD (L.take (k+1)))):=by
     show ag R w.heap.size f (k+1) c1 (bD (L.take (k+1)))
     rw [wg W.o];exact x.mono hb.size
    clear x;go_wp2;go_roundw
    case rel=>exact ⟨k+1,f,c1,by omega,by go_num,rfl,J.o,hb.trans (E.mono hb.size)⟩
    case measure=>simp [intOf];omega
  · have K:k=len:=by omega
    subst K;go_wp2;go_ret;refine ⟨g,c,rfl,?_,hb⟩;have:=F.o;rw [FH (by rw [u.o];omega)] at this;exact this
end Go.Proofs.YtpobkmjicbobdaaGreat
namespace Go.Proofs.YtpobkmjicbobdaaGreat
open Go.RowKit
set_option maxRecDepth 100000
def lc (w:World) (a:Option Addr) (len cap:Nat):Prop:=len≤cap∧cap≤maxLen∧(len=0∨∃b off,a=some ⟨b,off,none⟩∧b<w.heap.size∧∀i,i<len→∃z:Nat,z≤255∧w.cell? ⟨b,off+i,none⟩=some (.int .u8 z))
theorem lc.keep {w w':World} {a:Option Addr} {len cap:Nat} (h:lc w a len cap) (hb:Bl w w'):lc w' a len cap:=by
 obtain ⟨h1,h2,h3⟩:=h;refine ⟨h1,h2,?_⟩;rcases h3 with e | ⟨b,o,ha,f,hc⟩
 · exact Or.inl e
 · exact Or.inr ⟨b,o,ha,u' f hb.size,fun i hi=>by obtain ⟨z,hz,m⟩:=hc i hi;exact ⟨z,hz,cell_later hb m⟩⟩
end Go.Proofs.YtpobkmjicbobdaaGreat
namespace Go.Proofs.YtpobkmjicbobdaaGreat
set_option maxRecDepth 100000
open Go.RowKit Go.Joins Go.ChangeShapes Go.WideShapes Go.ChangeAt
theorem Tryz.cellsU8:Tryz.prog.cellsOf 5=1:=by kernel_rfl
theorem wS {H:Type} {enc:TypeId × Value→H} {W:World} {F base:Nat} {v:Value} {d:DataW H} {p:List MemPlace} {held:Bool}
 (hv:Value.okWide Tryz.prog W .any F 38 v) (h:DataW.Trod enc Tryz.prog W base (fun _=>true) held 38 v d p) :
 ∃(a:Option Addr) (len cap:Nat),v=.slice a len cap∧lc W a len cap:=by
 obtain ⟨a1,len,cap,rfl⟩:=okWide_slice Tryz.underlying38 hv;obtain ⟨u,hf⟩:=h;rcases Go.ChangeShapes.open_ints Tryz.underlying38 Tryz.underlying5 Tryz.cellsU8 hf with ⟨e,hx⟩ | ⟨a,x,y,zs,e,_,hl,hm,hz,hx,b,r⟩
 · simp [Value.cells] at e;obtain ⟨rfl,rfl,rfl⟩:=e;exact ⟨none,0,0,rfl,Fv _,FB _,Or.inl rfl⟩
 · simp [Value.cells] at e;obtain ⟨rfl,rfl,rfl⟩:=e;simp only [if_true] at hz;refine ⟨some a,len,cap,rfl,hl,hm,?_⟩;by_cases h0:len=0
   · exact Or.inl h0
   right
   obtain ⟨D,E,m⟩:=a;have f:m=none:=by simpa [Addr.add] using World.cell?_spot (b 0 (by omega))
   subst f;refine ⟨D,E,rfl,?_,fun i hi=>?_⟩
   · have:=Fu _ _ (b 0 (by omega));simpa [Addr.add] using this
   · have hc:=b i (by omega);rw [Addr.add_lit] at hc;have t:zs.getD i 0 ∈ zs:=by
      have o:i<zs.length:=by omega
      rw [List.getD_eq_getElem?_getD,j' o];exact F8 o
     have hb:=bounds_u8 (r _ t);obtain ⟨z,s⟩:=Gq hb.1;rw [s] at hc hb;exact ⟨z,by omega,hc⟩
end Go.Proofs.YtpobkmjicbobdaaGreat
