/- Walks. -/
import Derived.Test.YtpobkmjicbobdaaGreatBD27
import Derived.ChangeSlices
namespace Go.Proofs.YtpobkmjicbobdaaGreat
set_option maxRecDepth 100000
set_option maxHeartbeats 40000000
open Go.RowKit
variable {A B C:List af} {G P X base c1 c3 cap d d0 d1 d2 g g1 g3 len lo n n0 n1 n2 nm ns s0 s1 s2 size:Nat} {L M:List ac} {S:List Int} {V:List (List af)} {v:Value} {w w':World} {xs:List Value}
theorem pN (p:Nat→Prop) (g:Nat) (w:World):dx p w (pT g) 0 0 [] :=
 ⟨⟨rfl,Gg _,Gl _,fun _=>rfl,(fun _ _ h=>absurd h (IY _)),fun _ _ _ h=>absurd h (G2 _)⟩,fun _ _ h=>absurd h (IY _)⟩
def Fr (w:World) (e:Ending) (w':World):Prop:=∃v,e=.returned v∧dl w.heap.size w' v∧Bl w w'
theorem F0 (w:World):Calls Tryz.prog 136 #[] w (Fr w):=by
 go_enter Tryz.func136,Tryz.ntmps136
 go_wp2;refine bodyPost_ret (v:=.agg #[iT 0,nZ,sL (w.heap.size+1+1+1+1) 3 3,nZ]) (by simp [results,Tryz.results136,go_sem]) rfl ?_;obtain ⟨w0,m⟩:=aF (w.alloc (.cells #[iT 0,nZ,sL (w.heap.size+1+1+1+1) 3 3,nZ] 31));have o:Bl w w0:=by rw [m];exact bZ
 have s0:w0.heap.size=w.heap.size+1:=by rw [m];simp
 rw [← m];clear m;obtain ⟨w1,b⟩:=aF (w0.alloc (.cells #[] 63));have h1:w1.heap[w.heap.size+1]?=some (.cells #[] 63 (0,0)):=by rw [b,← s0];unfold World.alloc;exact Hm
 have k1:Bl w0 w1:=by rw [b];exact bZ
 have s1:w1.heap.size=w.heap.size+1+1:=by rw [b];simp [s0]
 rw [← b];clear b;obtain ⟨w3,f⟩:=aF ((w1.alloc (.cells #[] 63)).alloc (.cells #[] 63));have k3:Bl w1 w3:=by rw [f];exact bZ.alloc (by simp) _
 have s:w3.heap.size=w.heap.size+1+1+1+1:=by rw [f];simp [s1]
 rw [← f];clear f;have r:Bl w3 (w3.alloc (.cells #[sL (w.heap.size+1) 0 0,sL (w.heap.size+1+1) 0 0,sL (w.heap.size+1+1+1) 0 0] 61)):=bZ;have hrow:=GP (base:=w.heap.size) (e:=61) (size:=1) w3 #[sL (w.heap.size+1) 0 0,sL (w.heap.size+1+1) 0 0,sL (w.heap.size+1+1+1) 0 0] 3 (by omega) (by unfold maxLen;omega) (by simp);rw [s] at hrow;have hA:=((k3.trans (r.mono k3.size)).block (w.heap.size+1) (by omega)).trans h1;have t:=((o.trans (k1.mono o.size)).trans (k3.mono (Gq o.size k1.size))).trans (r.mono (by omega));exact ⟨_,rfl,⟨0,none,0,0,w.heap.size+1+1+1+1,3,none,0,0,w.heap.size+1,0,w.heap.size+1+1,0,0,w.heap.size+1+1+1,0,0,[],[],[],[],[],rfl,⟨cX.none _ _,hrow,pO hA (by omega),pN _ _ _,pN _ _ _,⟨rfl,Gg _,Gl _,(fun _ h=>by cases h),(fun _=>rfl),(fun x e=>by cases e),(fun x e=>by cases e)⟩,fun x e=>by cases e⟩,by rfl,tR,pm,pm,pm⟩,t⟩
def rk (v:Value):Prop:=∃q g1 nm c1 av nv cv g3 ns c3,v=.agg #[iT q,sL g1 nm c1,.slice av nv cv,sL g3 ns c3]
def F2 (lo:Nat) (w:World) (v:Value):Prop:=∃q am nm cm av nv cv ak ns cs M V S,v=.agg #[iT q,.slice am nm cm,.slice av nv cv,.slice ak ns cs]∧bn lo w am nm cm av nv cv ak ns cs M V S
def F5 (w:World) (e:Ending) (w':World):Prop:=∃q am nm cm av nv cv ak ns cs,e=.returned (.agg #[iT q,.slice am nm cm,.slice av nv cv,.slice ak ns cs])∧dl w.heap.size w' (.agg #[iT q,.slice am nm cm,.slice av nv cv,.slice ak ns cs])∧Bl w w'∧rk (.agg #[iT q,.slice am nm cm,.slice av nv cv,.slice ak ns cs])∧F2 w.heap.size w' (.agg #[iT q,.slice am nm cm,.slice av nv cv,.slice ak ns cs])
theorem FG (lo:Nat) (v:Value) (w:World) (h:dl lo w v):Calls Tryz.prog 57 #[v] w (F5 w):=by
 obtain ⟨q,s,nm,x,G,c,E,ns,cs,J,I,e1,n1,d1,e2,n2,d2,M,A,B,C,S,rfl,f,b⟩:=h;have hM:=(aV b.1).2.2.1;have hS:=mt b.1;have D:=f.mem.len;have hsl:=f.sn.length;refine (iL 0 q s _ E nm x 3 c ns cs M [A,B,C] S w f.treeIn (by omega) (by omega) (by omega) (pl b.1)).mono ?_;rintro e w' ⟨g1,c1,t,c',g3,c3,rfl,hC,hb⟩;obtain ⟨m,o,y,H,u,F,r⟩:=hC.trS (Gg _);exact ⟨q,_,_,_,_,_,_,_,_,_,rfl,⟨q,_,_,_,t,c',_,_,_,m,o,y,_,H,u,_,F,M,A,B,C,S,rfl,r,b⟩,hb,⟨q,_,_,_,_,_,_,_,_,_,rfl⟩,⟨q,_,_,_,_,_,_,_,_,_,_,_,_,rfl,hC.treeIn⟩⟩
def F1 (R:Nat) (a:Option Addr) (len cap P d:Nat) (w:World) (e:Ending) (w':World):Prop:=∃v P',e=.returned v∧dl w.heap.size w' v∧bf w' R a len cap P'∧P'≤P+d∧w.grownBy w' (some R)∧rk v∧F2 w.heap.size w' v
theorem AL {R:Option Nat} (h:iu w.heap.size R w w'):w.grownBy w' R:=⟨h.os,h.tape,h.output,h.size,fun k hk hn=>h.block k hk hn (.inl hk)⟩
def F4 (z:Int):Prop:=0≤z∧z≤24
theorem Fr.parts {e:Ending} (h:Fr w e w'):∃q f nm m s b o r ns cs,e=.returned (.agg #[iT q,.slice f nm m,.slice s b o,.slice r ns cs])∧dl w.heap.size w' (.agg #[iT q,.slice f nm m,.slice s b o,.slice r ns cs])∧Bl w w':=by
 obtain ⟨v,rfl,hg,hl⟩:=h;obtain ⟨q,f,nm,m,s,b,o,r,ns,cs,rfl⟩:=hg.val;exact ⟨q,f,nm,m,s,b,o,r,ns,cs,rfl,hg,hl⟩
theorem Ft.parts {R:Nat} {a:Option Addr} {e:Ending} (h:Ft lo R a len cap P d w e w'):∃q b nm s r f m o ns cs t,e=.returned (.agg #[iT q,.slice b nm s,.slice r f m,.slice o ns cs])∧dl lo w' (.agg #[iT q,.slice b nm s,.slice r f m,.slice o ns cs])∧bf w' R a len cap t∧t≤P+d∧iu lo (some R) w w':=by
 obtain ⟨v,t,rfl,hg,h1,h2,h3⟩:=h;obtain ⟨q,b,nm,s,r,f,m,o,ns,cs,rfl⟩:=hg.val;exact ⟨q,b,nm,s,r,f,m,o,ns,cs,t,rfl,hg,h1,h2,h3⟩
theorem xZ (R P:Nat) (a:Option Addr) (len cap:Nat) (w:World) (h:bf w R a len cap P) (a8:tC a len R) (hP:P<60000) :
 Calls Tryz.prog 74 #[.pointer (pT R)] w (F1 R a len cap P 6000 w):=by
 obtain ⟨Z,hZ⟩:=aF w.heap.size;obtain ⟨W,hW⟩:=aF (w.alloc (.cells #[iT 0,nZ,nZ,nZ] 31));have kW:Bl w W:=by rw [hW];exact bZ
 have br:ay W Z (iT 0) nZ nZ nZ∧aq W Z 31 4:=by rw [hW,hZ];exact ⟨ay.new _ _ _ _ _ _,cU w #[iT 0,nZ,nZ,nZ] 31⟩
 have aM:=h.lt;have a4:Eq (ay W Z (iT 0) nZ nZ nZ∧aq W Z 31 4∧w.heap.size≤Z):=⟨br.1,br.2,Nat.le_of_eq hZ.symm⟩;have aB:Eq (bf W R a len cap P):=h.below kW;have H:Eq (Bl w W):=kW;have aE:=az a8;clear h a8 br kW;go_enter Tryz.func74,Tryz.ntmps74
 go_wp2_with fail
 rw [← hW,← hZ];clear hW hZ;refine (F0 W).mono ?_;rintro e w1 hN;obtain ⟨q,am,nm,cm,av,nv,cv,ak,ns,cs,rfl,aC,I⟩:=hN.parts;obtain ⟨X,hX⟩:=aF w1.heap.size;obtain ⟨w2,J⟩:=aF (w1.alloc (.cells #[iT q,.slice am nm cm,.slice av nv cv,.slice ak ns cs] 31));have S0:Eq (ph w.heap.size R a len cap P w w2 X Z q am nm cm av nv cv ak ns cs):=by
  have k2:Bl w1 w2:=by rw [J];exact bZ
  have bm:=a4.o.1.lt;have aJ:=I.size;refine ⟨(aB.o.below I).below k2,by rw [J,hX];exact ay.new _ _ _ _ _ _,(a4.o.1.keep I).keep k2,⟨by rw [J,hX];exact cU w1 #[iT q,.slice am nm cm,.slice av nv cv,.slice ak ns cs] 31,(a4.o.2.1.below I).below k2⟩,?_,iu.of ((H.o.trans (I.mono H.o.size)).trans (k2.mono (Gq H.o.size aJ))),Gg _,?_,aM,aE.o,a4.o.2.2,?_⟩
  · obtain ⟨q',Y,U,O,G,c,a0,Q,K,gA,dA,e1,n1,d1,e2,n2,d2,M,A,B,C,S,e,hT,ac⟩:=aC.below k2;exact ⟨q',Y,U,O,G,c,a0,Q,K,gA,dA,e1,n1,d1,e2,n2,d2,M,A,B,C,S,e,hT.mono H.o.size,ac⟩
  · rw [hX];exact Gq H.o.size aJ
  · rw [hX];omega
 clear hN aC I a4 aB H;go_upto_region 2 with fail
 rw [← J,← hX];clear J hX;go_wp2_with fail
 have kc:Bl w2 (w2.alloc (.cells ((([4,8,12,18,24,2,0]:List Int).map iT).toArray) 3)):=bZ;refine (fc F4 R P a len cap w2.heap.size 0 7 7 _ (S0.o.rd.below kc) (by omega) (by omega) (by omega) (by have:=S0.o.rd.lt;omega) (by simp) (eQ w2 3 [4,8,12,18,24,2,0] F4 ?_)).mono ?_
 · intro s hs;simp only [Gz,GZ,or_false] at hs;rcases hs with rfl | rfl | rfl | rfl | rfl | rfl | rfl <;> (unfold F4;omega)
 rintro e w3 ⟨z,rfl,hz,an,aw⟩;have S3:Eq (ph w.heap.size R a len cap (P+1) w w3 X Z q am nm cm av nv cv ak ns cs):=(S0.o.below kc).read aw an;obtain ⟨N,rfl⟩:=Hk hz.1;have hN:N≤24:=by have:=hz.2;omega
 clear kc an aw hz S0;go_wp2;go_loopw [4] (fun iv wr=>∃(i P':Nat) (q:Int) (am:Option Addr) (nm cm:Nat) (av:Option Addr) (nv cv:Nat) (ak:Option Addr) (ns cs:Nat),iv=iT (i:Int)∧i≤N∧P'≤P+1+210*(N - i)∧ph w.heap.size R a len cap P' w wr X Z q am nm cm av nv cv ak ns cs) (fun iv _=>(intOf iv).toNat)
 case atStart=>exact ⟨N,P+1,q,am,nm,cm,av,nv,cv,ak,ns,cs,rfl,Gg _,by omega,S3.o⟩
 case round =>
  clear S3;obtain ⟨i,P',q1,ar,al,aL,aH,au,aG,aO,aU,aD,rfl,hi,bo,hS⟩:=hrel;have S:Eq (ph w.heap.size R a len cap P' w wr X Z q1 ar al aL aH au aG aO aU aD):=hS;have x0:=hS.bx.all;clear hS;by_cases bh:0<i
  · have aT:(i:Int) > 0:=by omega
    have bn:IntKind.i64.wrap ((i:Int) - 1)=(i:Int) - 1:=by rw [GB];unfold wrap64;omega
    have b9:P'<80000:=by have:210*(N - i)≤210*24:=Nat.mul_le_mul_left _ (by omega);omega
    go_wp2_with fail
    clear x0;refine (As R P' w.heap.size a len cap _ _ S.o.rd aE.o b9 aM S.o.low.size S.o.good).mono ?_;rintro e w4 hA;obtain ⟨q2,y,D,f,m,t,r,u,E,x,P2,rfl,aP,aR,bl,aK⟩:=hA.parts;obtain ⟨ax,aI⟩:=S.o.acted aK aR aP;have S2:=az aI;have x0:=ax.all;clear hA aP aR aK aI S ax;go_wp2;go_roundw
    case rel =>
     have e3:N - (i - 1)=N - i+1:=by omega
     exact ⟨i - 1,P2,q2,y,D,f,m,t,r,u,E,x,by rw [show ((i - 1:Nat):Int)=(i:Int) - 1 by omega],by omega,by rw [e3,Nat.mul_add];omega,S2.o⟩
    case measure=>simp [intOf];omega
  · have aT:¬(i:Int) > 0:=by omega
    have b7:P'≤P+6000:=by have:210*(N - i)≤210*24:=Nat.mul_le_mul_left _ (by omega);omega
    go_wp2_with fail
    clear x0;refine (FG w.heap.size _ _ S.o.good).mono ?_;rintro e w5 ⟨q2,y,D,f,m,t,r,u,E,x,rfl,aV,aS,aj,ao⟩;have aQ:Eq (F2 wr.heap.size w5 (.agg #[iT q2,.slice y D f,.slice m t r,.slice u E x])):=ao;have a5:Eq (Z<wr.heap.size):=S.o.br.lt;have b8:Eq (rk (.agg #[iT q2,.slice y D f,.slice m t r,.slice u E x])):=aj;have S5:Eq (ph w.heap.size R a len cap P' w w5 X Z q1 ar al aL aH au aG aO aU aD):=S.o.below aS;have b2:Eq (dl wr.heap.size w5 (.agg #[iT q2,.slice y D f,.slice m t r,.slice u E x])):=aV;have aN:Eq (w.heap.size≤wr.heap.size):=S.o.low.size;have r0:=S5.o.br.all;clear aj aV aS S ao;go_wp2;refine bodyPost_ret (v:=.agg #[iT q2,.slice y D f,.slice m t r,.slice u E x]) ?_ rfl ⟨_,P',rfl,?_,?_,b7,?_,b8.o,?_⟩
    · have e:=(((S5.o.br.set0 (iT q2)).set1 (.slice y D f)).set2 (.slice m t r)).set3 (.slice u E x);simp [results,Tryz.results74,go_sem,e.all]
    · obtain ⟨q',Y,U,O,G,c,a0,Q,K,gA,dA,e1,n1,d1,e2,n2,d2,M,A,B,C,T,e,hT,ac⟩:=b2.o.four (q:=q2) (a1:=y) (m1:=D) (k1:=f) (a2:=m) (m2:=t) (k2:=r) (a3:=u) (m3:=E) (k3:=x) S5.o.kx.2 S5.o.br;exact ⟨q',Y,U,O,G,c,a0,Q,K,gA,dA,e1,n1,d1,e2,n2,d2,M,A,B,C,T,e,hT.mono aN.o,ac⟩
    · have ht:=S5.o.top;have a6:Z≠R:=by omega
      have F:∀b ad,a=some ⟨b,ad,none⟩→0<len→b≠Z:=fun b ad e hl=>by
       rcases ht.2.2.2.1 with h0 | h0
       · omega
       · have:=h0 b ad e;omega
      exact (((S5.o.rd.other a6 F _ _).other a6 F _ _).other a6 F _ _).other a6 F _ _
    · have ht:=S5.o.top;exact AL (S5.o.low.four ht.2.2.2.2.1 ht.2.2.2.2.1 _ _ _ _)
    · obtain ⟨q',Y,U,O,ba,b4,b5,a0,Q,K,M,V,T,e,hT⟩:=aQ.o;exact ⟨q',Y,U,O,ba,b4,b5,a0,Q,K,M,V,T,e,(hT.same ((((dt.of_set _ _ a5.o).trans (dt.of_set _ _ a5.o)).trans (dt.of_set _ _ a5.o)).trans (dt.of_set _ _ a5.o))).lowR aN.o⟩
def jD (R:Nat) (w w':World):Prop:=w.heap.size≤w'.heap.size∧∀b,b<w.heap.size→b≠R→¬aq w b 31 4→w'.heap[b]?=w.heap[b]?
theorem jD.refl (R:Nat) (w:World):jD R w w:=⟨Gg _,fun _ _ _ _=>rfl⟩
theorem jD.trans {R:Nat} {a b c:World} (h:jD R a b) (k:jD R b c):jD R a c :=
 ⟨Gq h.1 k.1,fun i hi hR hn=>(k.2 i (E' hi h.1) hR (fun hB=>hn (hB.same (h.2 i hi hR hn).symm))).trans (h.2 i hi hR hn)⟩
theorem jD.grown {R:Nat} (h:w.grownBy w' (some R)):jD R w w':=⟨h.size,fun b hb hR _=>h.block b hb (fun e=>hR (Gi e))⟩
theorem jD.below {R:Nat} (h:Bl w w'):jD R w w':=⟨h.size,fun b hb _ _=>h.block b hb⟩
theorem jD.set {R:Nat} (h:aq w X 31 4) (o:Nat) (u:Value):jD R w (w.setCell ⟨X,o,none⟩ u):=⟨by simp [World.setCell],fun b _ _ hn=>Below.heap_setCell _ _ _ _ (fun e=>by subst e;exact hn h)⟩
theorem jD.four {R:Nat} (h:aq w X 31 4) (u0 u1 u2 u3:Value):jD R w ((((w.setCell ⟨X,0,none⟩ u0).setCell ⟨X,1,none⟩ u1).setCell ⟨X,2,none⟩ u2).setCell ⟨X,3,none⟩ u3) :=
 (((jD.set h 0 u0).trans (jD.set (h.setCell _) 1 u1)).trans (jD.set ((h.setCell _).setCell _) 2 u2)).trans (jD.set (((h.setCell _).setCell _).setCell _) 3 u3)
theorem jD.keep {R T sz:Nat} (k:jD R w w') (hg:aq w g T sz) (b:T≠31) (hR:R<g):w'.heap[g]?=w.heap[g]?:=k.2 g hg.lt (by omega) (fun h=>b (hg.kind h))
theorem B8 {e m c:Nat} (h:w.ownsRow base e size (sL g m c) n xs) (hb:w'.heap[g]?=w.heap[g]?):w'.ownsRow base e size (sL g m c) n xs:=by
 refine ⟨h.1,?_⟩;rcases h.2 with ⟨h',_⟩ | ⟨g',cap,b,h',q1,q2,q3⟩
 · simp at h'
 · have e:g=g':=by simp only [IR,Hy,Addr.mk.injEq,and_true] at h';exact h'.1
   subst e;exact .inr ⟨g,cap,b,h',q1,hb.trans q2,q3⟩
theorem jL {R:Nat} {e m c:Nat} (h:w.ownsRow base e size (sL g m c) n xs) (b:e≠31) (hR:R<base) (k:jD R w w'):w'.ownsRow base e size (sL g m c) n xs:=by
 obtain ⟨sz,f⟩:=aP h;exact B8 h (k.keep f b (E' hR (h.lt g rfl).1))
theorem ah.kp {R:Nat} {c:Nat} (h:ah w base g n c L) (hR:R<base) (k:jD R w w'):ah w' base g n c L:=⟨jL h.owns (by decide) hR k,h.len,h.ents⟩
theorem bj.kp {R:Nat} {c:Nat} (h:bj base w g n c B) (hR:R<base) (k:jD R w w'):bj base w' g n c B:=by
 obtain ⟨h1,h2,xs,h3,h4⟩:=h;exact ⟨h1,h2,xs,jL h3 (by decide) hR k,fun i p hp=>by obtain ⟨e,d,a1,a2,a3⟩:=h4 i p hp;exact ⟨e,d,a1,a2,a3.kp hR k⟩⟩
def Br (R:Nat) (w:World) (a:Option Addr) (n c:Nat) (B:List af):Prop:=∀w',jD R w w'→aw 0 w' a n c B
theorem bj.lvQ {R:Nat} {c:Nat} (h:bj base w g n c B) (hR:R<base):Br R w (pT g) n c B:=fun _ k=>(h.kp hR k).runsIn.mono (Gl _)
theorem Br.kp {R:Nat} {a:Option Addr} {c:Nat} (h:Br R w a n c B) (k:jD R w w'):Br R w' a n c B:=fun b k2=>h b (k.trans k2)
def pe (w:World) (av:Option Addr) (V:List (List af)):Prop:=∀(i:Nat) (B:List af),V[i]?=some B→∃b e n c,av=some ⟨b,0,none⟩∧w.cell? ⟨b,i,none⟩=some (sL e n c)
theorem qo {c:Nat} (hr:w.ownsRow base 61 1 (sL G 3 c) 3 [sL s0 n0 d0,sL s1 n1 d1,sL s2 n2 d2]) (hV:V.length≤3):pe w (pT G) V:=fun i B hB=>by
 have hi:=(F'.1 hB).1
 rcases (by omega:i=0∨i=1∨i=2) with rfl | rfl | rfl
 · exact ⟨G,_,_,_,rfl,hr.cellAt 0 (by omega)⟩
 · exact ⟨G,_,_,_,rfl,hr.cellAt 1 (by omega)⟩
 · exact ⟨G,_,_,_,rfl,hr.cellAt 2 (by omega)⟩
def DQ (R:Nat) (w:World) (am:Option Addr) (nm cm:Nat) (av:Option Addr) (nv cv:Nat) (ak:Option Addr) (ns cs:Nat) (M:List ac) (V:List (List af)) (S:List Int):Prop:=∀w',jD R w w'→bn 0 w' am nm cm av nv cv ak ns cs M V S∧pe w' av V
theorem DQ.kp {R:Nat} {e:Option Addr} {f:Nat} {r:Option Addr} {b m:Nat} {o:Option Addr} {cs:Nat} (h:DQ R w e nm f r b m o ns cs M V S) (k:jD R w w'):DQ R w' e nm f r b m o ns cs M V S:=fun s k2=>h s (k.trans k2)
theorem jN {R:Nat} {c:Nat} (hm:ah w base g1 nm c1 M) (hrow:w.ownsRow base 61 1 (sL G 3 c) 3 [sL s0 n0 d0,sL s1 n1 d1,sL s2 n2 d2]) (h0:Br R w (pT s0) n0 d0 A) (h1:Br R w (pT s1) n1 d1 B) (h2:Br R w (pT s2) n2 d2 C)
 (hsn:w.ownsRow base 3 1 (sL g3 ns c3) ns (S.map iT)) (hsl:S.length=ns) (hsw:∀z ∈ S,(Lit.int .i64 z).wf=true) (hR:R<base):DQ R w (pT g1) nm c1 (pT G) 3 c (pT g3) ns c3 M [A,B,C] S:=fun w' k=>by
 have hr:=jL hrow (by decide) hR k
 have hc:=cy hr
 exact ⟨⟨⟨(hm.kp hR k).entsAt,fun _ _ _=>Gl _⟩,jQ hc.1 hc.2 (hr.cellAt 0 (by omega)) (hr.cellAt 1 (by omega)) (hr.cellAt 2 (by omega)) (h0 w' k) (h1 w' k) (h2 w' k),(im (jL hsn (by decide) hR k) hsl hsw).lower (Gl _)⟩,qo hr (by simp)⟩
theorem Eb {R:Nat} {c:Nat} (hm:ah w base g1 nm c1 M) (hrow:w.ownsRow base 61 1 (sL G 3 c) 3 [sL s0 n0 d0,sL s1 n1 d1,sL s2 n2 d2]) (h0:Br R w (pT s0) n0 d0 A) (h1:Br R w (pT s1) n1 d1 B) (h2:Br R w (pT s2) n2 d2 C)
 (hsn:w.ownsRow base 3 1 (sL g3 ns c3) ns (S.map iT)) (hsl:S.length=ns) (hsw:∀z ∈ S,(Lit.int .i64 z).wf=true) (hR:R<base):DQ R w (pT g1) nm c1 (pT G) 2 c (pT g3) ns c3 M [A,B] S:=fun w' k=>by
 have h:=(jN hm hrow h0 h1 h2 hsn hsl hsw hR w' k).1
 refine ⟨⟨h.mem,⟨rfl,by have:=h.levels.room;omega,h.levels.big,(fun e=>by cases e),fun x e _=>h.levels.lies x e (by omega),fun x e i hi=>?_⟩,h.snaps⟩,qo (jL hrow (by decide) hR k) (by simp)⟩
 have b:i<2:=hi
 rcases (by omega:i=0∨i=1) with rfl | rfl
 · exact h.levels.levels x e 0 (by show 0<3;omega)
 · exact h.levels.levels x e 1 (by show 1<3;omega)
def FK (M:List ac) (V:List (List af)):Prop:=pu M∧∀B ∈ V,oz B
theorem mX.all (h:mX M A B C):FK M [A,B,C]:=⟨h.1,fun Z b=>by
 simp only [Gz,GZ,or_false] at b
 rcases b with rfl | rfl | rfl
 · exact h.2.1
 · exact h.2.2.1
 · exact h.2.2.2⟩
def e9 (lo R:Nat) (w:World) (v:Value):Prop:=dl lo w v∨∃q am nm cm av nv cv ak ns cs M V S,v=.agg #[iT q,.slice am nm cm,.slice av nv cv,.slice ak ns cs]∧(Lit.int .i64 q).wf=true∧DQ R w am nm cm av nv cv ak ns cs M V S∧ns≤100∧FK M V
theorem e9.below {R:Nat} (h:e9 lo R w v) (hb:Bl w w'):e9 lo R w' v:=by
 rcases h with h | ⟨q,b,nm,s,r,f,m,o,ns,cs,M,V,S,e,hq,h,hns⟩
 · exact .inl (h.below hb)
 · exact .inr ⟨q,b,nm,s,r,f,m,o,ns,cs,M,V,S,e,hq,h.kp (jD.below hb),hns⟩
theorem e9.read {R:Nat} {t:Option Addr} (h:e9 lo R w v) (hR:bf w R t len cap P) (hl:R<lo) (hg:w.grownBy w' (some R)):e9 lo R w' v:=by
 rcases h with h | ⟨q,b,nm,s,r,f,m,o,ns,cs,M,V,S,e,hq,h,hns⟩
 · exact .inl (h.read hR hl hg)
 · exact .inr ⟨q,b,nm,s,r,f,m,o,ns,cs,M,V,S,e,hq,h.kp (jD.grown hg),hns⟩
theorem e9.four {R:Nat} {q z:Int} {a1 a2 a3 b1 b2 b3:Option Addr} {m1 k1 m2 k2 m3 k3 E F x s f u:Nat} (h:e9 lo R w v) (hk:aq w X 31 4) (m:ay w X (iT z) (.slice b1 E F) (.slice b2 x s) (.slice b3 f u)):e9 lo R ((((w.setCell ⟨X,0,none⟩ (iT q)).setCell ⟨X,1,none⟩ (.slice a1 m1 k1)).setCell ⟨X,2,none⟩ (.slice a2 m2 k2)).setCell ⟨X,3,none⟩ (.slice a3 m3 k3)) v:=by
 rcases h with h | ⟨q,b,nm,r,D,t,o,y,ns,cs,M,V,S,e,hq,h,hns⟩
 · exact .inl (h.four hk m)
 · exact .inr ⟨q,b,nm,r,D,t,o,y,ns,cs,M,V,S,e,hq,h.kp (jD.four hk _ _ _ _),hns⟩
theorem e9.val {R:Nat} (h:e9 lo R w v):FI v:=by
 rcases h with h | ⟨q,e,nm,r,o,b,f,m,ns,cs,M,V,S,rfl,hq,h,hns⟩
 · exact h.val
 · exact ⟨_,_,_,_,_,_,_,_,_,_,rfl⟩
theorem e9.treeIn {R:Nat} (h:e9 lo R w v):∃q b nm e m s r f ns cs M V S,v=.agg #[iT q,.slice b nm e,.slice m s r,.slice f ns cs]∧(Lit.int .i64 q).wf=true∧bn 0 w b nm e m s r f ns cs M V S∧pe w m V∧ns≤100∧FK M V:=by
 rcases h with h | ⟨q,b,nm,e,m,s,r,f,ns,cs,M,V,S,rfl,hq,h,hns⟩
 · obtain ⟨q,b,nm,e,G,c,f,ns,cs,x,u,e1,n1,d1,e2,n2,d2,M,A,B,C,S,rfl,t,o⟩:=h;have hq:=aV o.1;exact ⟨q,b,nm,e,_,3,c,f,ns,cs,M,_,S,rfl,G5 (by omega),t.treeIn,qo t.row (by simp),by have h1:=t.treeIn.snaps.length;have h2:=(f8.1 hq.2.2.2.2.2.2.1).1;omega,o.2.all⟩
 · exact ⟨q,b,nm,e,m,s,r,f,ns,cs,M,V,S,rfl,hq,(h _ (jD.refl _ _)).1,(h _ (jD.refl _ _)).2,hns⟩
theorem Ch {α:Type} (c news:List α) (K T j:Nat) (hK:K+news.length≤c.length):((c.take K++news++c.drop (K+news.length)).take T)[j]?=if K≤j∧j<K+news.length∧j<(c.take T).length then news[j - K]? else (c.take T)[j]?:=by
 by_cases b:j<T
 · rw [IN,if_pos b,IN,if_pos b];by_cases h1:j<K
   · rw [if_neg (by omega),GJ,Gt (by rw [Gn];omega),IN,if_pos h1]
   · by_cases h2:j<K+news.length
     · rw [if_pos ⟨by omega,h2,by rw [Gn];omega⟩,GJ,Gm (by rw [Gn];omega),Gt (by rw [Gn];omega),Gn];congr 1
       omega
     · rw [if_neg (by omega),Gm (by rw [Gj,Gn];omega),Hb,Gj,Gn];congr 1
       omega
 · rw [IN,if_neg b,if_neg (by rw [Gn];omega),IN,if_neg b]
def EN (w w':World) (g k:Nat) (news:List Value):Prop :=
 ∀(base' e' size' n2 c2:Nat) (ys:List Value),w.ownsRow base' e' size' (sL g n2 c2) n2 ys→∃ys',w'.ownsRow base' e' size' (sL g n2 c2) n2 ys'∧∀j,ys'[j]?=if k≤j∧j<k+news.length∧j<ys.length then news[j - k]? else ys[j]?
def DU (w w':World) (g g' k:Nat) (news:List Value):Prop:=(g'=w.heap.size∧Bl w w')∨(g'=g∧EN w w' g k news)
theorem rP {P:Program} (w:World) (base:Nat) (t N e:TypeId) (i:TypeInfo) (z:Value) (size bytes:Nat) (Q:P.underlying t=some (.slice e)) (hi:P.info? e=some i) (hz:i.zero=some z)
 (hsize:i.size=size) (hby:i.bytes=bytes) (hzs:z.cells.size=size) (hsz:0<size)
 (g n c0:Nat) (xs:List Value) (hown:w.ownsRow base e size (sL g n c0) n xs)
 (a:Addr) (m c:Nat) (news:List Value) (hl:news.length=m*size) (hnews:∀j u,news[j]?=some u→w.cell? (a.add j)=some u) (h1:∀u ∈ news,u.oneCell'=true)
 (h63:n+m≤maxLen) (hbytes:(n+m)*bytes≤140737488355328) (hbase:base≤w.heap.size) :
 ∃H c' w',(Builtin.append_ #[t,t] N #[sL g n c0,.slice (some a) m c]).run P w=.ok (sL H (n+m) c') w'∧w'.ownsRow base e size (sL H (n+m) c') (n+m) (xs++news)∧w.grownBy w' (some g)∧DU w w' g H (n*size) news:=by
 subst hsize;subst hby
 have D:n+m≤9223372036854775807:=by simp only [maxLen] at h63;omega
 have hlen:(xs++news).length=(n+m)*i.size:=by rw [Gj,hown.1,hl,Nat.add_mul]
 have o:∀j u,xs[j]?=some u→w.cell? ((⟨g,0,none⟩:Addr).add j)=some u:=hown.cells (g:=g) rfl;have hx:=hown.1;rcases hown.2 with ⟨h,_⟩ | ⟨g0,cap,b,hv,J,hg,Z,F,K,r⟩
 · cases h
 · cases hv;by_cases hroom:n+m≤c0
   · have f:n*i.size+news.length≤b.size:=by rw [hl,K,← Nat.add_mul];exact Nat.mul_le_mul_right _ hroom
     have hr:=run_append_room (P:=P) w t N e i Q hi g n c0 b hg a m c news hl hnews h1 hroom f;refine ⟨g,c0,_,hr,⟨hlen,.inr ⟨g,c0,_,rfl,J,setRow_heap w g b _ e _ hg,hroom,F,?_,?_⟩⟩,⟨rfl,rfl,rfl,by simp,fun k _ hk=>setRow_other w g k _ (fun e=>hk (by rw [e]))⟩,.inr ⟨rfl,?_⟩⟩
     · simp only [Hu,Gj,Gn,Gy,Array.length_toList];omega
     · rw [r,← hlen];exact List.take_left
     · intro base' e' size' n2 T ys ho;have W:=ho.1;rcases ho.2 with ⟨h,_⟩ | ⟨g1,R,U,hv1,O,x,s,I,Y,ht1⟩
       · cases h
       · cases hv1;rw [hg] at x;cases x;have hK:n*i.size+news.length≤b.toList.length:=by rw [Array.length_toList];exact f
         refine ⟨(b.toList.take (n*i.size)++news++b.toList.drop (n*i.size+news.length)).take (n2*size'),⟨?_,.inr ⟨g,T,_,rfl,O,setRow_heap w g b _ e _ hg,s,I,?_,rfl⟩⟩,fun j=>?_⟩
         · have h2:n2*size'≤T*size':=Nat.mul_le_mul_right _ s;simp only [Gj,Gn,Gy,Array.length_toList];omega
         · simp only [Hu,Gj,Gn,Gy,Array.length_toList];omega
         · rw [Ch _ _ _ _ _ hK,ht1]
   · have hr:=run_append_grow (P:=P) w t N e i z Q hi hz ⟨g,0,none⟩ n c0 xs hown.1 o a m c news hl hnews (by omega) (by omega) (growslice_fits (by omega) hbytes);have E:=grownCap_ge w (n+m) c0 e;have y:=grownCap_le_maxLen w (n+m) c0 e h63;refine ⟨_,_,_,hr,⟨hlen,.inr ⟨w.heap.size,_,_,rfl,hbase,heap_alloc_new w.drew _,E,y,?_,?_⟩⟩,⟨rfl,rfl,rfl,by simp,fun k hk _=>(by first | exact heap_alloc_old w.drew _ k hk | exact heap_alloc_old w.drew _ hk)⟩,.inl ⟨rfl,?_⟩⟩
     · simp only [Array.size_append,Hu,size_zeroCells,hzs,hown.1,hl,← Nat.add_mul];congr 1
       omega
     · simp only [Array.toList_append,GJ];rw [← GJ,← hlen];exact List.take_left
     · exact (Below.refl _ w).drew.alloc (Gg _) _
theorem fM {P:Program} {b:Array Oper} {o:Oper} {a:Act} {w:World} {K:Act→World→Prop} {Q:Exit→Act→World→Prop} {E:Prop}
 (hg:o.guard=none) (s x:Operand) (t:TypeId) (hop:o.op=Op.call { callee:=Callee.builtin Builtin.append,args:=#[s,x],argTypes:=#[t,t] })
 (base:Nat) (e:TypeId) (i:TypeInfo) (z:Value) (size bytes:Nat) (h1:P.underlying t=some (.slice e)) (h2:P.info? e=some i) (h3:i.zero=some z) (h4:i.size=size) (h5:i.bytes=bytes) (h6:z.cells.size=size) (h7:0<size)
 (g n c0:Nat) (olds:List Value) (hs:a.eval s=sL g n c0) (hown:w.ownsRow base e size (sL g n c0) n olds)
 (ad:Addr) (m c:Nat) (news:List Value) (hx:a.eval x=.slice (some ad) m c) (hn:news.length=m*size) (hc:∀j u,news[j]?=some u→w.cell? (ad.add j)=some u) (h1c:∀u ∈ news,u.oneCell'=true)
 (b1:n+m≤maxLen) (b2:(n+m)*bytes≤140737488355328) (b3:base≤w.heap.size)
 (hK:∀r c' w',w'.ownsRow base e size (sL r (n+m) c') (n+m) (olds++news)→w.grownBy w' (some g)→DU w w' g r (n*size) news→K (a.put o.dst (sL r (n+m) c')) w') :
 if Region.wanted o (yielded b a.tmps)=true then Oper.wp P o a w K Q else E:=by
 have hw:Region.wanted o (yielded b a.tmps)=true:=by simp [Region.wanted,hg]
 rw [if_pos hw];obtain ⟨r,c',w',f,y,r2,r3⟩:=rP (P:=P) w base t o.type e i z size bytes h1 h2 h3 h4 h5 h6 h7 g n c0 olds hown ad m c news hn hc h1c b1 b2 b3;unfold Oper.wp;simp [execOp,hop,resolve,invoke,builtin,hs,hx,f,Result.andThen];exact hK r c' w' y r2 r3
theorem bj.beside {b y h e u:Nat} {m:Int} (hB:bj b w h n d B) (hA:bj b w g n0 d0 A) (hg:w.grownBy w' (some g)) (hat:DU w w' g y (n0*2) [sL e L.length u,iT m]) (hL:ah w b e L.length u L) (hm:(Lit.int .i64 m).wf=true):∃x,bj b w' h n d x∧∀p ∈ x,p ∈ B∨p=(L,m):=by
 rcases hat with ⟨_,hb⟩ | ⟨rfl,ho⟩
 · exact ⟨B,hB.below hb,fun _ h=>.inl h⟩
 obtain ⟨_,_,F,a3,_⟩:=hA;obtain ⟨N,D⟩:=aP a3;by_cases o:h=y
 · subst o;obtain ⟨h1,h2,xs,h3,h4⟩:=hB;obtain ⟨I,q1,q2⟩:=ho _ _ _ _ _ _ h3;have E:=h3.1;have f:∀{e d:Nat} {L:List ac},ah w b e L.length d L→ah w' b e L.length d L:=fun {e d L} hO=>by
    obtain ⟨K,J⟩:=aP hO.owns;refine hO.grown hg (fun s=>?_);have r:=Gi s;subst r;exact absurd (D.kind J) (by decide)
   refine ⟨B.set n0 (L,m),⟨by rw [IH];exact h1,fun p hp=>?_,I,q1,fun i p hp=>?_⟩,fun _ hp=>Iz hp⟩
   · rcases Iz hp with h | h
     · exact h2 p h
     · rw [h];exact hm
   · have t:i<B.length:=by have:=(F'.1 hp).1;rwa [IH] at this
     by_cases hi:i=n0
     · subst hi;rw [GV t] at hp;cases hp;refine ⟨e,u,?_,?_,f hL⟩
       · rw [q2,if_pos ⟨Gg _,by simp,by omega⟩,Hn];rfl
       · rw [q2,if_pos ⟨by omega,by simp,by omega⟩,show i*2+1 - i*2=1 by omega];rfl
     · rw [GE (Iw hi)] at hp;obtain ⟨s,H,a1,a2,a4⟩:=h4 i p hp;refine ⟨s,H,?_,?_,f a4⟩
       · rw [q2,if_neg (by simp;omega)];exact a1
       · rw [q2,if_neg (by simp;omega)];exact a2
 · exact ⟨B,hB.grownR D o hg,fun _ h=>.inl h⟩
end Go.Proofs.YtpobkmjicbobdaaGreat
namespace Go.Proofs.YtpobkmjicbobdaaGreat
open Go.RowKit
set_option maxRecDepth 100000
set_option maxHeartbeats 8000000
def iw (L:List ac):Prop:=∀e ∈ L,jE e.1 e.2.2.2.1 e.2.1 e.2.2.1 e.2.2.2.2
theorem jW {k t:ByteArray} {q d n:Int} (h:jE k t q d n):eG (k,q,d,t,n):=by
 obtain ⟨h1,h2,h3,h4,h5⟩:=h;exact ⟨by unfold mY at h1;unfold maxLen;simp only;omega,h3,h4,by unfold mY at h2;unfold maxLen;simp only;omega,h5⟩
theorem mf {L:List ac} (h:iw L):∀e ∈ L,eG e:=fun e b=>jW (h e b)
theorem fo {A B:List ac} (h:iw A) (k:iw B):iw (A++B):=fun e b=>(Gw.1 b).elim (h e) (k e)
theorem eF {k t:ByteArray} {q d n:Int} (h:jE k t q d n):iw [(k,q,d,t,n)]:=fun e b=>by
 simp only [GC] at b
 subst b
 exact h
def EY (R:Nat) (a:Option Addr) (len cap P many:Nat) (w:World) (e:Ending) (w':World):Prop :=
 ∃(g n c P':Nat) (L:List ac),e=.returned (sL g n c)∧ah w' w.heap.size g n c L∧n≤many∧iw L∧bf w' R a len cap P'∧P'≤P+1+8*many∧w.grownBy w' (some R)
theorem ah.gR {w w':World} {base g n c R:Nat} {L:List ac} (h:ah w base g n c L) (hg:w.grownBy w' (some R)) (hR:R<g):ah w' base g n c L:=h.grown hg (fun e=>by cases e;omega)
theorem ya (R P many:Nat) (a:Option Addr) (len cap:Nat) (w:World) (h:bf w R a len cap P) (H:tC a len R) (hP:P<80000) (hm:many≤100) :
 Calls Tryz.prog 230 #[.pointer (pT R),iT many] w (EY R a len cap P many w):=by
 obtain ⟨i0,hi,a8,aq,an⟩:=info_parts Tryz.infoEnt;have aN:=h.lt;have kt:Bl w (w.alloc (.cells #[] 50)):=bZ;have ap:Eq (ah (w.alloc (.cells #[] 50)) w.heap.size w.heap.size 0 0 []):=cH w _ (Gg _);have R0:=h.below kt;have G0:w.grownBy (w.alloc (.cells #[] 50)) (some R):=aJ kt;have I:=az H;clear kt h H;go_enter Tryz.func230,Tryz.ntmps230
 go_wp2_with fail
 refine (cJ R P a len cap _ _ R0 (by omega) (by omega)).mono ?_;rintro e w1 ⟨q1,rfl,Y,R1,g1⟩;have ab:=Y.1;have be:q1≤many:=by have:=Y.2 (by omega);omega
 obtain ⟨I0,aE⟩:=Hk ab;subst aE;have a4:Eq (ah w1 w.heap.size w.heap.size 0 0 []):=ap.o.gR g1 aN;have ax:Eq (w.grownBy w1 (some R)):=ae G0 g1;have af:Eq (bf w1 R a len cap (P+1)):=R1;clear G0 g1 R0 R1 ap Y ab;go_wp2;go_loopw [5,6,7] (fun ov sv iv wr=>∃(i sq n g c N:Nat) (L:List ac),iv=iT i∧sv=iT sq∧ov=sL g n c∧i+n≤many∧sq≤2*n∧N≤P+1+8*n∧ah wr w.heap.size g n c L∧iw L∧bf wr R a len cap N∧w.grownBy wr (some R)) (fun _ _ iv _=>(intOf iv).toNat)
 case atStart=>exact ⟨I0,0,0,w.heap.size,0,P+1,[],rfl,rfl,rfl,by omega,by omega,by omega,a4.o,(fun e he=>by cases he),af.o,ax.o⟩
 case round =>
  obtain ⟨i,sq,n,g,c,N,L,rfl,rfl,rfl,bp,bh,bo,hO,hF,hR,hG⟩:=hrel;have HO:Eq (ah wr w.heap.size g n c L):=hO;have HF:Eq (iw L):=hF;have HR:Eq (bf wr R a len cap N):=hR;have HG:Eq (w.grownBy wr (some R)):=hG;have br:=hO.lt;have bi:=hG.size;clear hO hF hR hG a4 ax af;by_cases aO:i=0
  · subst aO;go_wp2;go_ret;exact ⟨g,n,c,N,L,rfl,HO.o,by omega,HF.o,HR.o,by omega,HG.o⟩
  · have bb:(0:Int)<(i:Int):=by omega
    have b8:0<i:=by omega
    go_wp2_with fail
    refine (cJ R N a len cap _ _ HR.o (by omega) (by omega)).mono ?_;rintro e w2 ⟨q2,rfl,W,R2,g2⟩;obtain ⟨S2,ao⟩:=Hk W.1;subst ao;have ao:S2≤1:=by have:=W.2 (by omega);omega
    have aa:Eq (ah w2 w.heap.size g n c L):=HO.o.gR g2 (by omega);have am:Eq (w.grownBy w2 (some R)):=ae HG.o g2;have ad:Eq (bf w2 R a len cap (N+1)):=R2;have bc:=g2.size;clear R2 g2 W HO HG HR;go_wp2_with fail
    refine (iA R (N+1) a len cap _ _ ad.o (by omega) (G5 (by omega))).mono ?_;rintro e w3 ⟨s,t,q,d,nn,U,rfl,hE,R3,bj,g3⟩;have HE:Eq (jE s t q d nn):=hE;have ar:Eq (ah w3 w.heap.size g n c L):=aa.o.gR g3 (by omega);have aw:Eq (w.grownBy w3 (some R)):=ae am.o g3;have ba:=g3.size;obtain ⟨X,Q⟩:=aF w3.heap.size;obtain ⟨W3,m⟩:=aF (w3.alloc (.cells #[.string s,iT q,iT d,.string t,iT nn] 50));have k3:Bl w3 W3:=by rw [m];exact bZ
    have x0:W3.cell? ⟨X,0,none⟩=some (.string s):=by rw [m,Q];simp
    have x1:W3.cell? ⟨X,1,none⟩=some (iT q):=by rw [m,Q];simp
    have x2:W3.cell? ⟨X,2,none⟩=some (iT d):=by rw [m,Q];simp
    have x3:W3.cell? ⟨X,3,none⟩=some (.string t):=by rw [m,Q];simp
    have x4:W3.cell? ⟨X,4,none⟩=some (iT nn):=by rw [m,Q];simp
    have al:Eq (bf W3 R a len cap U):=R3.below k3;have K:Eq (ah W3 w.heap.size g n c L):=ar.o.below k3;have J:Eq (w.grownBy W3 (some R)):=ae aw.o (aJ k3);have bm:R<X:=by omega
    have b1:=k3.size;clear hE R3 g3 aa am ad ar aw k3;go_wp2_with fail
    rw [← m,← Q];clear m Q;refine (cJ R U a len cap _ _ al.o (by omega) (by omega)).mono ?_;rintro e f ⟨q4,rfl,a6,R4,E⟩;obtain ⟨S4,aQ⟩:=Hk a6.1;subst aQ;have u:X≠R:=by omega
    have Z:=Gf _ _ x0;simp only at Z;have y0:=(au E (x:=⟨X,0,none⟩) Z u).trans x0;have y1:=(au E (x:=⟨X,1,none⟩) Z u).trans x1;have y2:=(au E (x:=⟨X,2,none⟩) Z u).trans x2;have y3:=(au E (x:=⟨X,3,none⟩) Z u).trans x3;have y4:=(au E (x:=⟨X,4,none⟩) Z u).trans x4;have aI:=Gf _ _ y0;simp only at aI;have a5:Eq (bf f R a len cap (U+1)):=R4;have r:Eq (ah f w.heap.size g n c L):=K.o.gR E (by omega);have ai:Eq (w.grownBy f (some R)):=ae J.o E;have bk:=E.size;have bn:=r.o.lt;clear x0 x1 x2 x3 x4 R4 E al K J Z a6;have D:Bl f (f.alloc (.cells #[.string s,iT q,iT d,.string t,iT nn] 50)):=bZ;by_cases aD:S4=0
    · subst aD;have a3:Eq (aj (f.alloc (.cells #[.string s,iT q,iT d,.string t,iT nn] 50)) (some ⟨f.heap.size,0,none⟩) 1 1 [(s,q,d,t,nn)]):=eR f _ _ _ _ _ (jW HE.o);go_wp2_with (at_builtin;refine wpList_append_own _ rfl _ _ 28 rfl w.heap.size 50 i0 _ 5 56 Tryz.underlying28 hi a8 aq an rfl (by decide) _ _ _ rfl (r.o.below D).owns ⟨f.heap.size,0,none⟩ 1 1 (aG [(s,q,d,t,nn)]) rfl rfl (b7 a3.o) (aY _) (by unfold maxLen;omega) (by omega) (by have:=D.size;omega) ?_)
      intro v' F hown hgrow hnil;obtain ⟨g5,c5,rfl⟩:∃g cap,v'=sL g (n+1) cap:=by
       rcases hown.2 with ⟨hv,h0⟩ | ⟨g,cap,aA,hv,_⟩
       · omega
       · exact ⟨g,cap,hv⟩
      have b:(f.alloc (.cells #[.string s,iT q,iT d,.string t,iT nn] 50)).grownBy F (some g):=hgrow;have T:Eq (ah F w.heap.size g5 (n+1) c5 (L++[(s,q,d,t,nn)])):=⟨by rw [bw];exact hown,by simp [r.o.len],mf (fo HF.o (eF HE.o))⟩;have a0:Eq (bf F R a len cap (U+1)):=(a5.o.below D).grown b I.o (fun k e=>by cases e;omega);have O:Eq (w.grownBy F (some R)):=aH (ae ai.o (aJ D)) (by omega) b;clear hown hgrow b hnil a3 D;go_wp2;go_roundw
      case rel=>exact ⟨i - 1,sq+1+S2,n+1,g5,c5,U+1,L++[(s,q,d,t,nn)],by congr 1;omega,by congr 1,rfl,by omega,by omega,by omega,T.o,fo HF.o (eF HE.o),a0.o,O.o⟩
      case measure=>simp [intOf];omega
    · have ak:¬(S4:Int)=0:=by omega
      have b6:((S4:Int) == 0)=false:=by simpa using ak
      have y:ah (f.alloc (.cells #[.string s,iT q,iT d,.string t,iT nn] 50)) w.heap.size f.heap.size 1 1 [(s,q,d,t,nn)]:=by
       have:=GP (base:=w.heap.size) (e:=50) (size:=5) f #[.string s,iT q,iT d,.string t,iT nn] 1 (by omega) (by unfold maxLen;omega) rfl;exact ⟨by simpa [aG,bg] using this,rfl,mf (eF HE.o)⟩
      have a2:Eq (ah (f.alloc (.cells #[.string s,iT q,iT d,.string t,iT nn] 50)) w.heap.size f.heap.size 1 1 [(s,q,d,t,nn)]):=y;clear y;go_wp2_with (at_builtin;refine wpList_append_own _ rfl _ _ 28 rfl w.heap.size 50 i0 _ 5 56 Tryz.underlying28 hi a8 aq an rfl (by decide) _ _ _ rfl a2.o.owns ⟨g,0,none⟩ n c (aG L) rfl (by rw [aW,r.o.len]) (b7 (r.o.below D).entsAt) (aY _) (by unfold maxLen;omega) (by omega) (by have:=D.size;omega) ?_)
      intro v' F hown hgrow hnil;obtain ⟨g5,c5,rfl⟩:∃g cap,v'=sL g (1+n) cap:=by
       rcases hown.2 with ⟨hv,h0⟩ | ⟨g,cap,aA,hv,_⟩
       · omega
       · exact ⟨g,cap,hv⟩
      have b:(f.alloc (.cells #[.string s,iT q,iT d,.string t,iT nn] 50)).grownBy F (some f.heap.size):=hgrow;have T:Eq (ah F w.heap.size g5 (1+n) c5 ([(s,q,d,t,nn)]++L)):=⟨by rw [bw];exact hown,by simp [r.o.len];omega,mf (fo (eF HE.o) HF.o)⟩;have a0:Eq (bf F R a len cap (U+1)):=(a5.o.below D).grown b I.o (fun k e=>by cases e;omega);have O:Eq (w.grownBy F (some R)):=aH (ae ai.o (aJ D)) (by omega) b;clear hown hgrow b hnil a2 D;go_wp2;go_roundw
      case rel=>exact ⟨i - 1,sq+1+S2,1+n,g5,c5,U+1,[(s,q,d,t,nn)]++L,by congr 1;omega,by congr 1,rfl,by omega,by omega,by omega,T.o,fo (eF HE.o) HF.o,a0.o,O.o⟩
      case measure=>simp [intOf];omega
end Go.Proofs.YtpobkmjicbobdaaGreat
namespace Go.Proofs.YtpobkmjicbobdaaGreat
open Go.RowKit
set_option maxRecDepth 100000
set_option maxHeartbeats 8000000
end Go.Proofs.YtpobkmjicbobdaaGreat
namespace Go.Proofs.YtpobkmjicbobdaaGreat
open Go.RowKit
set_option maxRecDepth 100000
set_option maxHeartbeats 8000000
end Go.Proofs.YtpobkmjicbobdaaGreat
namespace Go.Proofs.YtpobkmjicbobdaaGreat
set_option maxRecDepth 100000
set_option maxHeartbeats 40000000
open Go.RowKit
theorem BM (a:Option Addr) (len cap:Nat) (L:List ac) (w:World) (hL:aj w a len cap L) (hlen:len≤1048576) :
 Calls Tryz.prog 229 #[.slice a len cap] w fun e w'=>∃g c,e=.returned (sL g len c)∧ah w' w.heap.size g len c (bG L)∧Bl w w':=by
 have m:=az hL.length;have U:=hL.room;have y:=hL.big;unfold maxLen at y;have T:=az hL;have J:ah (w.alloc (.cells #[] 50)) w.heap.size w.heap.size 0 0 (bG (L.take 0)):=cH w _ (Gg _);have F:=az J;have H:Bl w (w.alloc (.cells #[] 50)):=bZ;go_enter Tryz.func229,Tryz.ntmps229
 go_wp2;go_loopw [3,4] (fun ov N wr=>∃(k g c:Nat),k≤len∧N=iT k∧ov=sL g k c∧ah wr w.heap.size g k c (bG (L.take k))∧Bl w wr) (fun _ N _=>len - (intOf N).toNat)
 case atStart=>exact ⟨0,w.heap.size,0,Gl _,rfl,rfl,F.o,H⟩
 case round =>
  obtain ⟨k,g,c,hk,rfl,rfl,hO,hb⟩:=hrel;have E:=az hO;by_cases u:k<len
  · obtain ⟨b,Z,rfl,r⟩:=T.o.form (by omega);obtain ⟨s,q,d,t,n,hg,O,g0,g1,g2,g3,g4⟩:=T.o.ent hb r k u;have W:=az hg;have Q:=az O;have Y:=E' r hb.size;go_wp2_with fail
    refine (tI g k c (bG (L.take k)) s t q d n _ E.o.entsAt E.o.lt.2 (by omega) Q.o).mono ?_;rintro e R ⟨f,c1,rfl,x,K⟩;have I:Eq (ah R w.heap.size f (k+1) c1 (bG (L.take (k+1)))):=by
     show ah R w.heap.size f (k+1) c1 (bG (L.take (k+1)))
     rw [xr W.o];exact x.mono hb.size
    go_wp2;go_roundw
    case rel=>exact ⟨k+1,f,c1,by omega,by go_num,rfl,I.o,hb.trans (K.mono hb.size)⟩
    case measure=>simp [intOf];omega
  · have D:k=len:=by omega
    subst D;go_wp2;go_ret;refine ⟨g,c,rfl,?_,hb⟩;have:=E.o;rw [Gr (by rw [m.o];omega)] at this;exact this
end Go.Proofs.YtpobkmjicbobdaaGreat
namespace Go.Proofs.YtpobkmjicbobdaaGreat
open Go.RowKit
set_option maxRecDepth 100000
def lA (w:World) (a:Option Addr) (len cap:Nat):Prop:=len≤cap∧cap≤maxLen∧(len=0∨∃b off,a=some ⟨b,off,none⟩∧b<w.heap.size∧∀i,i<len→∃z:Nat,z≤255∧w.cell? ⟨b,off+i,none⟩=some (.int .u8 z))
theorem lA.keep {w w':World} {a:Option Addr} {len cap:Nat} (h:lA w a len cap) (hb:Bl w w'):lA w' a len cap:=by
 obtain ⟨h1,h2,h3⟩:=h;refine ⟨h1,h2,?_⟩;rcases h3 with e | ⟨b,m,ha,f,hc⟩
 · exact Or.inl e
 · exact Or.inr ⟨b,m,ha,E' f hb.size,fun i hi=>by obtain ⟨z,hz,o⟩:=hc i hi;exact ⟨z,hz,cell_later hb o⟩⟩
end Go.Proofs.YtpobkmjicbobdaaGreat
namespace Go.Proofs.YtpobkmjicbobdaaGreat
set_option maxRecDepth 100000
open Go.RowKit Go.Joins Go.ChangeShapes Go.WideShapes Go.ChangeAt
theorem Tryz.cellsU8:Tryz.prog.cellsOf 5=1:=by kernel_rfl
theorem xN {H:Type} {enc:TypeId × Value→H} {W:World} {b0 base:Nat} {v:Value} {d:DataW H} {p:List MemPlace} {held:Bool}
 (hv:Value.okWide Tryz.prog W .any b0 38 v) (h:DataW.Trod enc Tryz.prog W base (fun _=>true) held 38 v d p) :
 ∃(a:Option Addr) (len cap:Nat),v=.slice a len cap∧lA W a len cap:=by
 obtain ⟨a1,len,cap,rfl⟩:=okWide_slice Tryz.underlying38 hv;obtain ⟨y,hf⟩:=h;rcases Go.ChangeShapes.open_ints Tryz.underlying38 Tryz.underlying5 Tryz.cellsU8 hf with ⟨e,hx⟩ | ⟨a,x,u,zs,e,_,hl,hm,hz,hx,b,s⟩
 · simp [Value.cells] at e;obtain ⟨rfl,rfl,rfl⟩:=e;exact ⟨none,0,0,rfl,Gg _,Gl _,Or.inl rfl⟩
 · simp [Value.cells] at e;obtain ⟨rfl,rfl,rfl⟩:=e;simp only [if_true] at hz;refine ⟨some a,len,cap,rfl,hl,hm,?_⟩;by_cases h0:len=0
   · exact Or.inl h0
   right
   obtain ⟨E,D,m⟩:=a;have f:m=none:=by simpa [Addr.add] using World.cell?_spot (b 0 (by omega))
   subst f;refine ⟨E,D,rfl,?_,fun i hi=>?_⟩
   · have:=Gf _ _ (b 0 (by omega));simpa [Addr.add] using this
   · have hc:=b i (by omega);rw [Addr.add_lit] at hc;have r:zs.getD i 0 ∈ zs:=by
      have o:i<zs.length:=by omega
      rw [List.getD_eq_getElem?_getD,j' o];exact GQ o
     have hb:=bounds_u8 (s _ r);obtain ⟨z,t⟩:=Hk hb.1;rw [t] at hc hb;exact ⟨z,by omega,hc⟩
end Go.Proofs.YtpobkmjicbobdaaGreat
