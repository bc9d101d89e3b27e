/- Walks. -/
import Derived.Test.YtpobkmjicbobdaaGreatBW27
import Derived.ChangeSlices
namespace Go.Proofs.YtpobkmjicbobdaaGreat
set_option maxRecDepth 100000
set_option maxHeartbeats 40000000
open Go.RowKit
variable {A B C:List af} {G P X base c1 c3 cap d d0 d1 d2 g g1 g3 len lo n n0 n1 n2 nm ns s0 s1 s2 size:Nat} {L M:List ac} {S:List Int} {V:List (List af)} {v:Value} {w w':World} {xs:List Value}
theorem qu (p:Nat→Prop) (g:Nat) (w:World):dH p w (pT g) 0 0 [] :=
 ⟨⟨rfl,GL _,GQ _,fun _=>rfl,(fun _ _ h=>absurd h (Jq _)),fun _ _ _ h=>absurd h (H7 _)⟩,fun _ _ h=>absurd h (Jq _)⟩
def FR (w:World) (e:Ending) (w':World):Prop:=∃v,e=.returned v∧dr w.heap.size w' v∧Bl w w'
theorem Gu (w:World):Calls Tryz.prog 136 #[] w (FR w):=by
 go_enter Tryz.func136,Tryz.ntmps136
 go_wp2;refine bodyPost_ret (v:=.agg #[iT 0,nZ,sL (w.heap.size+1+1+1+1) 3 3,nZ]) (by simp [results,Tryz.results136,go_sem]) rfl ?_;obtain ⟨w0,m⟩:=aG (w.alloc (.cells #[iT 0,nZ,sL (w.heap.size+1+1+1+1) 3 3,nZ] 31));have o:Bl w w0:=by rw [m];exact bZ
 have s0:w0.heap.size=w.heap.size+1:=by rw [m];simp
 rw [← m];clear m;obtain ⟨w1,b⟩:=aG (w0.alloc (.cells #[] 63));have h1:w1.heap[w.heap.size+1]?=some (.cells #[] 63 (0,0)):=by rw [b,← s0];unfold World.alloc;exact In
 have k1:Bl w0 w1:=by rw [b];exact bZ
 have s1:w1.heap.size=w.heap.size+1+1:=by rw [b];simp [s0]
 rw [← b];clear b;obtain ⟨w3,f⟩:=aG ((w1.alloc (.cells #[] 63)).alloc (.cells #[] 63));have k3:Bl w1 w3:=by rw [f];exact bZ.alloc (by simp) _
 have s:w3.heap.size=w.heap.size+1+1+1+1:=by rw [f];simp [s1]
 rw [← f];clear f;have r:Bl w3 (w3.alloc (.cells #[sL (w.heap.size+1) 0 0,sL (w.heap.size+1+1) 0 0,sL (w.heap.size+1+1+1) 0 0] 61)):=bZ;have hrow:=Hi (base:=w.heap.size) (e:=61) (size:=1) w3 #[sL (w.heap.size+1) 0 0,sL (w.heap.size+1+1) 0 0,sL (w.heap.size+1+1+1) 0 0] 3 (by omega) (by unfold maxLen;omega) (by simp);rw [s] at hrow;have hA:=((k3.trans (r.mono k3.size)).block (w.heap.size+1) (by omega)).trans h1;have t:=((o.trans (k1.mono o.size)).trans (k3.mono (GU o.size k1.size))).trans (r.mono (by omega));exact ⟨_,rfl,⟨0,none,0,0,w.heap.size+1+1+1+1,3,none,0,0,w.heap.size+1,0,w.heap.size+1+1,0,0,w.heap.size+1+1+1,0,0,[],[],[],[],[],rfl,⟨cE.none _ _,hrow,qv hA (by omega),qu _ _ _,qu _ _ _,⟨rfl,GL _,GQ _,(fun _ h=>by cases h),(fun _=>rfl),(fun x e=>by cases e),(fun x e=>by cases e)⟩,fun x e=>by cases e⟩,by rfl,uv,pJ,pJ,pJ⟩,t⟩
def sj (v:Value):Prop:=∃q g1 nm c1 av nv cv g3 ns c3,v=.agg #[iT q,sL g1 nm c1,.slice av nv cv,sL g3 ns c3]
def Gw (lo:Nat) (w:World) (v:Value):Prop:=∃q am nm cm av nv cv ak ns cs M V S,v=.agg #[iT q,.slice am nm cm,.slice av nv cv,.slice ak ns cs]∧aZ lo w am nm cm av nv cv ak ns cs M V S
def Gz (w:World) (e:Ending) (w':World):Prop:=∃q am nm cm av nv cv ak ns cs,e=.returned (.agg #[iT q,.slice am nm cm,.slice av nv cv,.slice ak ns cs])∧dr w.heap.size w' (.agg #[iT q,.slice am nm cm,.slice av nv cv,.slice ak ns cs])∧Bl w w'∧sj (.agg #[iT q,.slice am nm cm,.slice av nv cv,.slice ak ns cs])∧Gw w.heap.size w' (.agg #[iT q,.slice am nm cm,.slice av nv cv,.slice ak ns cs])
theorem F6 (lo:Nat) (v:Value) (w:World) (h:dr lo w v):Calls Tryz.prog 57 #[v] w (Gz w):=by
 obtain ⟨q,s,nm,x,G,c,E,ns,cs,J,I,e1,n1,d1,e2,n2,d2,M,A,B,C,S,rfl,f,b⟩:=h;have hM:=(aL b.1).2.2.1;have hS:=mQ b.1;have D:=f.mem.len;have hsl:=f.sn.length;refine (io 0 q s _ E nm x 3 c ns cs M [A,B,C] S w f.treeIn (by omega) (by omega) (by omega) (pI b.1)).mono ?_;rintro e w' ⟨g1,c1,t,c',g3,c3,rfl,hC,hb⟩;obtain ⟨m,o,y,H,u,F,r⟩:=hC.trS (GL _);exact ⟨q,_,_,_,_,_,_,_,_,_,rfl,⟨q,_,_,_,t,c',_,_,_,m,o,y,_,H,u,_,F,M,A,B,C,S,rfl,r,b⟩,hb,⟨q,_,_,_,_,_,_,_,_,_,rfl⟩,⟨q,_,_,_,_,_,_,_,_,_,_,_,_,rfl,hC.treeIn⟩⟩
def Gv (R:Nat) (a:Option Addr) (len cap P d:Nat) (w:World) (e:Ending) (w':World):Prop:=∃v P',e=.returned v∧dr w.heap.size w' v∧bh w' R a len cap P'∧P'≤P+d∧w.grownBy w' (some R)∧sj v∧Gw w.heap.size w' v
theorem Bd {R:Option Nat} (h:iG w.heap.size R w w'):w.grownBy w' R:=⟨h.os,h.tape,h.output,h.size,fun k hk hn=>h.block k hk hn (.inl hk)⟩
def Gy (z:Int):Prop:=0≤z∧z≤24
theorem FR.parts {e:Ending} (h:FR w e w'):∃q f nm m s b o r ns cs,e=.returned (.agg #[iT q,.slice f nm m,.slice s b o,.slice r ns cs])∧dr w.heap.size w' (.agg #[iT q,.slice f nm m,.slice s b o,.slice r ns cs])∧Bl w w':=by
 obtain ⟨v,rfl,hg,hl⟩:=h;obtain ⟨q,f,nm,m,s,b,o,r,ns,cs,rfl⟩:=hg.val;exact ⟨q,f,nm,m,s,b,o,r,ns,cs,rfl,hg,hl⟩
theorem FU.parts {R:Nat} {a:Option Addr} {e:Ending} (h:FU lo R a len cap P d w e w'):∃q b nm s r f m o ns cs t,e=.returned (.agg #[iT q,.slice b nm s,.slice r f m,.slice o ns cs])∧dr lo w' (.agg #[iT q,.slice b nm s,.slice r f m,.slice o ns cs])∧bh w' R a len cap t∧t≤P+d∧iG lo (some R) w w':=by
 obtain ⟨v,t,rfl,hg,h1,h2,h3⟩:=h;obtain ⟨q,b,nm,s,r,f,m,o,ns,cs,rfl⟩:=hg.val;exact ⟨q,b,nm,s,r,f,m,o,ns,cs,t,rfl,hg,h1,h2,h3⟩
theorem yE (R P:Nat) (a:Option Addr) (len cap:Nat) (w:World) (h:bh w R a len cap P) (a8:ud a len R) (hP:P<60000) :
 Calls Tryz.prog 74 #[.pointer (pT R)] w (Gv R a len cap P 6000 w):=by
 obtain ⟨Z,hZ⟩:=aG w.heap.size;obtain ⟨W,hW⟩:=aG (w.alloc (.cells #[iT 0,nZ,nZ,nZ] 31));have kW:Bl w W:=by rw [hW];exact bZ
 have br:ay W Z (iT 0) nZ nZ nZ∧aq W Z 31 4:=by rw [hW,hZ];exact ⟨ay.new _ _ _ _ _ _,cX w #[iT 0,nZ,nZ,nZ] 31⟩
 have aM:=h.lt;have a4:Eq (ay W Z (iT 0) nZ nZ nZ∧aq W Z 31 4∧w.heap.size≤Z):=⟨br.1,br.2,Nat.le_of_eq hZ.symm⟩;have aB:Eq (bh W R a len cap P):=h.below kW;have H:Eq (Bl w W):=kW;have aE:=az a8;clear h a8 br kW;go_enter Tryz.func74,Tryz.ntmps74
 go_wp2_with fail
 rw [← hW,← hZ];clear hW hZ;refine (Gu W).mono ?_;rintro e w1 hN;obtain ⟨q,am,nm,cm,av,nv,cv,ak,ns,cs,rfl,aC,I⟩:=hN.parts;obtain ⟨X,hX⟩:=aG w1.heap.size;obtain ⟨w2,J⟩:=aG (w1.alloc (.cells #[iT q,.slice am nm cm,.slice av nv cv,.slice ak ns cs] 31));have S0:Eq (pH w.heap.size R a len cap P w w2 X Z q am nm cm av nv cv ak ns cs):=by
  have k2:Bl w1 w2:=by rw [J];exact bZ
  have bm:=a4.o.1.lt;have aJ:=I.size;refine ⟨(aB.o.below I).below k2,by rw [J,hX];exact ay.new _ _ _ _ _ _,(a4.o.1.keep I).keep k2,⟨by rw [J,hX];exact cX w1 #[iT q,.slice am nm cm,.slice av nv cv,.slice ak ns cs] 31,(a4.o.2.1.below I).below k2⟩,?_,iG.of ((H.o.trans (I.mono H.o.size)).trans (k2.mono (GU H.o.size aJ))),GL _,?_,aM,aE.o,a4.o.2.2,?_⟩
  · obtain ⟨q',Y,U,O,G,c,a0,Q,K,gA,dA,e1,n1,d1,e2,n2,d2,M,A,B,C,S,e,hT,ac⟩:=aC.below k2;exact ⟨q',Y,U,O,G,c,a0,Q,K,gA,dA,e1,n1,d1,e2,n2,d2,M,A,B,C,S,e,hT.mono H.o.size,ac⟩
  · rw [hX];exact GU H.o.size aJ
  · rw [hX];omega
 clear hN aC I a4 aB H;go_upto_region 2 with fail
 rw [← J,← hX];clear J hX;go_wp2_with fail
 have kc:Bl w2 (w2.alloc (.cells ((([4,8,12,18,24,2,0]:List Int).map iT).toArray) 3)):=bZ;refine (fo Gy R P a len cap w2.heap.size 0 7 7 _ (S0.o.rd.below kc) (by omega) (by omega) (by omega) (by have:=S0.o.rd.lt;omega) (by simp) (eV w2 3 [4,8,12,18,24,2,0] Gy ?_)).mono ?_
 · intro s hs;simp only [GZ,Hs,or_false] at hs;rcases hs with rfl | rfl | rfl | rfl | rfl | rfl | rfl <;> (unfold Gy;omega)
 rintro e w3 ⟨z,rfl,hz,an,aw⟩;have S3:Eq (pH w.heap.size R a len cap (P+1) w w3 X Z q am nm cm av nv cv ak ns cs):=(S0.o.below kc).read aw an;obtain ⟨N,rfl⟩:=Il hz.1;have hN:N≤24:=by have:=hz.2;omega
 clear kc an aw hz S0;go_wp2;go_loopw [4] (fun iv wr=>∃(i P':Nat) (q:Int) (am:Option Addr) (nm cm:Nat) (av:Option Addr) (nv cv:Nat) (ak:Option Addr) (ns cs:Nat),iv=iT (i:Int)∧i≤N∧P'≤P+1+210*(N - i)∧pH w.heap.size R a len cap P' w wr X Z q am nm cm av nv cv ak ns cs) (fun iv _=>(intOf iv).toNat)
 case atStart=>exact ⟨N,P+1,q,am,nm,cm,av,nv,cv,ak,ns,cs,rfl,GL _,by omega,S3.o⟩
 case round =>
  clear S3;obtain ⟨i,P',q1,ar,al,aL,aH,au,aF,aO,aU,aD,rfl,hi,bo,hS⟩:=hrel;have S:Eq (pH w.heap.size R a len cap P' w wr X Z q1 ar al aL aH au aF aO aU aD):=hS;have x0:=hS.bx.all;clear hS;by_cases bg:0<i
  · have aT:(i:Int) > 0:=by omega
    have bn:IntKind.i64.wrap ((i:Int) - 1)=(i:Int) - 1:=by rw [G4];unfold wrap64;omega
    have b9:P'<80000:=by have:210*(N - i)≤210*24:=Nat.mul_le_mul_left _ (by omega);omega
    go_wp2_with fail
    clear x0;refine (AP R P' w.heap.size a len cap _ _ S.o.rd aE.o b9 aM S.o.low.size S.o.good).mono ?_;rintro e w4 hA;obtain ⟨q2,y,D,f,m,t,r,u,E,x,P2,rfl,aP,aR,bl,aK⟩:=hA.parts;obtain ⟨ax,aI⟩:=S.o.acted aK aR aP;have S2:=az aI;have x0:=ax.all;clear hA aP aR aK aI S ax;go_wp2;go_roundw
    case rel =>
     have e3:N - (i - 1)=N - i+1:=by omega
     exact ⟨i - 1,P2,q2,y,D,f,m,t,r,u,E,x,by rw [show ((i - 1:Nat):Int)=(i:Int) - 1 by omega],by omega,by rw [e3,Nat.mul_add];omega,S2.o⟩
    case measure=>simp [intOf];omega
  · have aT:¬(i:Int) > 0:=by omega
    have b7:P'≤P+6000:=by have:210*(N - i)≤210*24:=Nat.mul_le_mul_left _ (by omega);omega
    go_wp2_with fail
    clear x0;refine (F6 w.heap.size _ _ S.o.good).mono ?_;rintro e w5 ⟨q2,y,D,f,m,t,r,u,E,x,rfl,aV,aS,aj,ao⟩;have aQ:Eq (Gw wr.heap.size w5 (.agg #[iT q2,.slice y D f,.slice m t r,.slice u E x])):=ao;have a5:Eq (Z<wr.heap.size):=S.o.br.lt;have b8:Eq (sj (.agg #[iT q2,.slice y D f,.slice m t r,.slice u E x])):=aj;have S5:Eq (pH w.heap.size R a len cap P' w w5 X Z q1 ar al aL aH au aF aO aU aD):=S.o.below aS;have b2:Eq (dr wr.heap.size w5 (.agg #[iT q2,.slice y D f,.slice m t r,.slice u E x])):=aV;have aN:Eq (w.heap.size≤wr.heap.size):=S.o.low.size;have r0:=S5.o.br.all;clear aj aV aS S ao;go_wp2;refine bodyPost_ret (v:=.agg #[iT q2,.slice y D f,.slice m t r,.slice u E x]) ?_ rfl ⟨_,P',rfl,?_,?_,b7,?_,b8.o,?_⟩
    · have e:=(((S5.o.br.set0 (iT q2)).set1 (.slice y D f)).set2 (.slice m t r)).set3 (.slice u E x);simp [results,Tryz.results74,go_sem,e.all]
    · obtain ⟨q',Y,U,O,G,c,a0,Q,K,gA,dA,e1,n1,d1,e2,n2,d2,M,A,B,C,T,e,hT,ac⟩:=b2.o.four (q:=q2) (a1:=y) (m1:=D) (k1:=f) (a2:=m) (m2:=t) (k2:=r) (a3:=u) (m3:=E) (k3:=x) S5.o.kx.2 S5.o.br;exact ⟨q',Y,U,O,G,c,a0,Q,K,gA,dA,e1,n1,d1,e2,n2,d2,M,A,B,C,T,e,hT.mono aN.o,ac⟩
    · have ht:=S5.o.top;have a6:Z≠R:=by omega
      have F:∀b ad,a=some ⟨b,ad,none⟩→0<len→b≠Z:=fun b ad e hl=>by
       rcases ht.2.2.2.1 with h0 | h0
       · omega
       · have:=h0 b ad e;omega
      exact (((S5.o.rd.other a6 F _ _).other a6 F _ _).other a6 F _ _).other a6 F _ _
    · have ht:=S5.o.top;exact Bd (S5.o.low.four ht.2.2.2.2.1 ht.2.2.2.2.1 _ _ _ _)
    · obtain ⟨q',Y,U,O,ba,b4,b5,a0,Q,K,M,V,T,e,hT⟩:=aQ.o;exact ⟨q',Y,U,O,ba,b4,b5,a0,Q,K,M,V,T,e,(hT.same ((((eF.of_set _ _ a5.o).trans (eF.of_set _ _ a5.o)).trans (eF.of_set _ _ a5.o)).trans (eF.of_set _ _ a5.o))).lowR aN.o⟩
def jW (R:Nat) (w w':World):Prop:=w.heap.size≤w'.heap.size∧∀b,b<w.heap.size→b≠R→¬aq w b 31 4→w'.heap[b]?=w.heap[b]?
theorem jW.refl (R:Nat) (w:World):jW R w w:=⟨GL _,fun _ _ _ _=>rfl⟩
theorem jW.trans {R:Nat} {a b c:World} (h:jW R a b) (k:jW R b c):jW R a c :=
 ⟨GU h.1 k.1,fun i hi hR hn=>(k.2 i (E' hi h.1) hR (fun hB=>hn (hB.same (h.2 i hi hR hn).symm))).trans (h.2 i hi hR hn)⟩
theorem jW.grown {R:Nat} (h:w.grownBy w' (some R)):jW R w w':=⟨h.size,fun b hb hR _=>h.block b hb (fun e=>hR (GN e))⟩
theorem jW.below {R:Nat} (h:Bl w w'):jW R w w':=⟨h.size,fun b hb _ _=>h.block b hb⟩
theorem jW.set {R:Nat} (h:aq w X 31 4) (o:Nat) (u:Value):jW R w (w.setCell ⟨X,o,none⟩ u):=⟨by simp [World.setCell],fun b _ _ hn=>Below.heap_setCell _ _ _ _ (fun e=>by subst e;exact hn h)⟩
theorem jW.four {R:Nat} (h:aq w X 31 4) (u0 u1 u2 u3:Value):jW R w ((((w.setCell ⟨X,0,none⟩ u0).setCell ⟨X,1,none⟩ u1).setCell ⟨X,2,none⟩ u2).setCell ⟨X,3,none⟩ u3) :=
 (((jW.set h 0 u0).trans (jW.set (h.setCell _) 1 u1)).trans (jW.set ((h.setCell _).setCell _) 2 u2)).trans (jW.set (((h.setCell _).setCell _).setCell _) 3 u3)
theorem jW.keep {R T sz:Nat} (k:jW R w w') (hg:aq w g T sz) (b:T≠31) (hR:R<g):w'.heap[g]?=w.heap[g]?:=k.2 g hg.lt (by omega) (fun h=>b (hg.kind h))
theorem CG {e m c:Nat} (h:w.ownsRow base e size (sL g m c) n xs) (hb:w'.heap[g]?=w.heap[g]?):w'.ownsRow base e size (sL g m c) n xs:=by
 refine ⟨h.1,?_⟩;rcases h.2 with ⟨h',_⟩ | ⟨g',cap,b,h',q1,q2,q3⟩
 · simp at h'
 · have e:g=g':=by simp only [Jn,Ix,Addr.mk.injEq,and_true] at h';exact h'.1
   subst e;exact .inr ⟨g,cap,b,h',q1,hb.trans q2,q3⟩
theorem ku {R:Nat} {e m c:Nat} (h:w.ownsRow base e size (sL g m c) n xs) (b:e≠31) (hR:R<base) (k:jW R w w'):w'.ownsRow base e size (sL g m c) n xs:=by
 obtain ⟨sz,f⟩:=aQ h;exact CG h (k.keep f b (E' hR (h.lt g rfl).1))
theorem ag.kp {R:Nat} {c:Nat} (h:ag w base g n c L) (hR:R<base) (k:jW R w w'):ag w' base g n c L:=⟨ku h.owns (by decide) hR k,h.len,h.ents⟩
theorem bo.kp {R:Nat} {c:Nat} (h:bo base w g n c B) (hR:R<base) (k:jW R w w'):bo base w' g n c B:=by
 obtain ⟨h1,h2,xs,h3,h4⟩:=h;exact ⟨h1,h2,xs,ku h3 (by decide) hR k,fun i p hp=>by obtain ⟨e,d,a1,a2,a3⟩:=h4 i p hp;exact ⟨e,d,a1,a2,a3.kp hR k⟩⟩
def BZ (R:Nat) (w:World) (a:Option Addr) (n c:Nat) (B:List af):Prop:=∀w',jW R w w'→aw 0 w' a n c B
theorem bo.lvQ {R:Nat} {c:Nat} (h:bo base w g n c B) (hR:R<base):BZ R w (pT g) n c B:=fun _ k=>(h.kp hR k).runsIn.mono (GQ _)
theorem BZ.kp {R:Nat} {a:Option Addr} {c:Nat} (h:BZ R w a n c B) (k:jW R w w'):BZ R w' a n c B:=fun e b=>h e (k.trans b)
def su (w:World) (av:Option Addr) (V:List (List af)):Prop:=∀(i:Nat) (B:List af),V[i]?=some B→∃b e n c,av=some ⟨b,0,none⟩∧w.cell? ⟨b,i,none⟩=some (sL e n c)
theorem qP {c:Nat} (hr:w.ownsRow base 61 1 (sL G 3 c) 3 [sL s0 n0 d0,sL s1 n1 d1,sL s2 n2 d2]) (hV:V.length≤3):su w (pT G) V:=fun i B hB=>by
 have hi:=(F'.1 hB).1
 rcases (by omega:i=0∨i=1∨i=2) with rfl | rfl | rfl
 · exact ⟨G,_,_,_,rfl,hr.cellAt 0 (by omega)⟩
 · exact ⟨G,_,_,_,rfl,hr.cellAt 1 (by omega)⟩
 · exact ⟨G,_,_,_,rfl,hr.cellAt 2 (by omega)⟩
def Ei (R:Nat) (w:World) (am:Option Addr) (nm cm:Nat) (av:Option Addr) (nv cv:Nat) (ak:Option Addr) (ns cs:Nat) (M:List ac) (V:List (List af)) (S:List Int):Prop:=∀w',jW R w w'→aZ 0 w' am nm cm av nv cv ak ns cs M V S∧su w' av V
theorem Ei.kp {R:Nat} {e:Option Addr} {f:Nat} {r:Option Addr} {b m:Nat} {o:Option Addr} {cs:Nat} (h:Ei R w e nm f r b m o ns cs M V S) (k:jW R w w'):Ei R w' e nm f r b m o ns cs M V S:=fun t s=>h t (k.trans s)
theorem kH {R:Nat} {c:Nat} (hm:ag w base g1 nm c1 M) (hrow:w.ownsRow base 61 1 (sL G 3 c) 3 [sL s0 n0 d0,sL s1 n1 d1,sL s2 n2 d2]) (h0:BZ R w (pT s0) n0 d0 A) (h1:BZ R w (pT s1) n1 d1 B) (h2:BZ R w (pT s2) n2 d2 C)
 (hsn:w.ownsRow base 3 1 (sL g3 ns c3) ns (S.map iT)) (hsl:S.length=ns) (hsw:∀z ∈ S,(Lit.int .i64 z).wf=true) (hR:R<base):Ei R w (pT g1) nm c1 (pT G) 3 c (pT g3) ns c3 M [A,B,C] S:=fun w' k=>by
 have hr:=ku hrow (by decide) hR k
 have hc:=cC hr
 exact ⟨⟨⟨(hm.kp hR k).entsAt,fun _ _ _=>GQ _⟩,kL hc.1 hc.2 (hr.cellAt 0 (by omega)) (hr.cellAt 1 (by omega)) (hr.cellAt 2 (by omega)) (h0 w' k) (h1 w' k) (h2 w' k),(jF (ku hsn (by decide) hR k) hsl hsw).lower (GQ _)⟩,qP hr (by simp)⟩
theorem ED {R:Nat} {c:Nat} (hm:ag w base g1 nm c1 M) (hrow:w.ownsRow base 61 1 (sL G 3 c) 3 [sL s0 n0 d0,sL s1 n1 d1,sL s2 n2 d2]) (h0:BZ R w (pT s0) n0 d0 A) (h1:BZ R w (pT s1) n1 d1 B) (h2:BZ R w (pT s2) n2 d2 C)
 (hsn:w.ownsRow base 3 1 (sL g3 ns c3) ns (S.map iT)) (hsl:S.length=ns) (hsw:∀z ∈ S,(Lit.int .i64 z).wf=true) (hR:R<base):Ei R w (pT g1) nm c1 (pT G) 2 c (pT g3) ns c3 M [A,B] S:=fun w' k=>by
 have h:=(kH hm hrow h0 h1 h2 hsn hsl hsw hR w' k).1
 refine ⟨⟨h.mem,⟨rfl,by have:=h.levels.room;omega,h.levels.big,(fun e=>by cases e),fun x e _=>h.levels.lies x e (by omega),fun x e i hi=>?_⟩,h.snaps⟩,qP (ku hrow (by decide) hR k) (by simp)⟩
 have b:i<2:=hi
 rcases (by omega:i=0∨i=1) with rfl | rfl
 · exact h.levels.levels x e 0 (by show 0<3;omega)
 · exact h.levels.levels x e 1 (by show 1<3;omega)
def Gc (M:List ac) (V:List (List af)):Prop:=pU M∧∀B ∈ V,o5 B
theorem nY.all (h:nY M A B C):Gc M [A,B,C]:=⟨h.1,fun Z b=>by
 simp only [GZ,Hs,or_false] at b
 rcases b with rfl | rfl | rfl
 · exact h.2.1
 · exact h.2.2.1
 · exact h.2.2.2⟩
def gM (lo R:Nat) (w:World) (v:Value):Prop:=dr lo w v∨∃q am nm cm av nv cv ak ns cs M V S,v=.agg #[iT q,.slice am nm cm,.slice av nv cv,.slice ak ns cs]∧(Lit.int .i64 q).wf=true∧Ei R w am nm cm av nv cv ak ns cs M V S∧ns≤100∧Gc M V
theorem gM.below {R:Nat} (h:gM lo R w v) (hb:Bl w w'):gM lo R w' v:=by
 rcases h with h | ⟨q,b,nm,s,r,f,m,o,ns,cs,M,V,S,e,hq,h,hns⟩
 · exact .inl (h.below hb)
 · exact .inr ⟨q,b,nm,s,r,f,m,o,ns,cs,M,V,S,e,hq,h.kp (jW.below hb),hns⟩
theorem gM.read {R:Nat} {t:Option Addr} (h:gM lo R w v) (hR:bh w R t len cap P) (hl:R<lo) (hg:w.grownBy w' (some R)):gM lo R w' v:=by
 rcases h with h | ⟨q,b,nm,s,r,f,m,o,ns,cs,M,V,S,e,hq,h,hns⟩
 · exact .inl (h.read hR hl hg)
 · exact .inr ⟨q,b,nm,s,r,f,m,o,ns,cs,M,V,S,e,hq,h.kp (jW.grown hg),hns⟩
theorem gM.four {R:Nat} {q z:Int} {a1 a2 a3 b1 b2 b3:Option Addr} {m1 k1 m2 k2 m3 k3 E F x s f u:Nat} (h:gM lo R w v) (hk:aq w X 31 4) (m:ay w X (iT z) (.slice b1 E F) (.slice b2 x s) (.slice b3 f u)):gM lo R ((((w.setCell ⟨X,0,none⟩ (iT q)).setCell ⟨X,1,none⟩ (.slice a1 m1 k1)).setCell ⟨X,2,none⟩ (.slice a2 m2 k2)).setCell ⟨X,3,none⟩ (.slice a3 m3 k3)) v:=by
 rcases h with h | ⟨q,b,nm,r,D,t,o,y,ns,cs,M,V,S,e,hq,h,hns⟩
 · exact .inl (h.four hk m)
 · exact .inr ⟨q,b,nm,r,D,t,o,y,ns,cs,M,V,S,e,hq,h.kp (jW.four hk _ _ _ _),hns⟩
theorem gM.val {R:Nat} (h:gM lo R w v):Ga v:=by
 rcases h with h | ⟨q,e,nm,r,o,b,f,m,ns,cs,M,V,S,rfl,hq,h,hns⟩
 · exact h.val
 · exact ⟨_,_,_,_,_,_,_,_,_,_,rfl⟩
theorem gM.treeIn {R:Nat} (h:gM lo R w v):∃q b nm e m s r f ns cs M V S,v=.agg #[iT q,.slice b nm e,.slice m s r,.slice f ns cs]∧(Lit.int .i64 q).wf=true∧aZ 0 w b nm e m s r f ns cs M V S∧su w m V∧ns≤100∧Gc M V:=by
 rcases h with h | ⟨q,b,nm,e,m,s,r,f,ns,cs,M,V,S,rfl,hq,h,hns⟩
 · obtain ⟨q,b,nm,e,G,c,f,ns,cs,x,u,e1,n1,d1,e2,n2,d2,M,A,B,C,S,rfl,t,o⟩:=h;have hq:=aL o.1;exact ⟨q,b,nm,e,_,3,c,f,ns,cs,M,_,S,rfl,Hu (by omega),t.treeIn,qP t.row (by simp),by have h1:=t.treeIn.snaps.length;have h2:=(fI.1 hq.2.2.2.2.2.2.1).1;omega,o.2.all⟩
 · exact ⟨q,b,nm,e,m,s,r,f,ns,cs,M,V,S,rfl,hq,(h _ (jW.refl _ _)).1,(h _ (jW.refl _ _)).2,hns⟩
theorem Db {α:Type} (c news:List α) (K T j:Nat) (hK:K+news.length≤c.length):((c.take K++news++c.drop (K+news.length)).take T)[j]?=if K≤j∧j<K+news.length∧j<(c.take T).length then news[j - K]? else (c.take T)[j]?:=by
 by_cases b:j<T
 · rw [Jk,if_pos b,Jk,if_pos b];by_cases h1:j<K
   · rw [if_neg (by omega),Hd,GW (by rw [GS];omega),Jk,if_pos h1]
   · by_cases h2:j<K+news.length
     · rw [if_pos ⟨by omega,h2,by rw [GS];omega⟩,Hd,GR (by rw [GS];omega),GW (by rw [GS];omega),GS];congr 1
       omega
     · rw [if_neg (by omega),GR (by rw [GO,GS];omega),H9,GO,GS];congr 1
       omega
 · rw [Jk,if_neg b,if_neg (by rw [GS];omega),Jk,if_neg b]
def Fd (w w':World) (g k:Nat) (news:List Value):Prop :=
 ∀(base' e' size' n2 c2:Nat) (ys:List Value),w.ownsRow base' e' size' (sL g n2 c2) n2 ys→∃ys',w'.ownsRow base' e' size' (sL g n2 c2) n2 ys'∧∀j,ys'[j]?=if k≤j∧j<k+news.length∧j<ys.length then news[j - k]? else ys[j]?
def En (w w':World) (g g' k:Nat) (news:List Value):Prop:=(g'=w.heap.size∧Bl w w')∨(g'=g∧Fd w w' g k news)
theorem sJ {P:Program} (w:World) (base:Nat) (t N e:TypeId) (i:TypeInfo) (z:Value) (size bytes:Nat) (Q:P.underlying t=some (.slice e)) (hi:P.info? e=some i) (hz:i.zero=some z)
 (hsize:i.size=size) (hby:i.bytes=bytes) (hzs:z.cells.size=size) (hsz:0<size)
 (g n c0:Nat) (xs:List Value) (hown:w.ownsRow base e size (sL g n c0) n xs)
 (a:Addr) (m c:Nat) (news:List Value) (hl:news.length=m*size) (hnews:∀j u,news[j]?=some u→w.cell? (a.add j)=some u) (h1:∀u ∈ news,u.oneCell'=true)
 (h63:n+m≤maxLen) (hbytes:(n+m)*bytes≤140737488355328) (hbase:base≤w.heap.size) :
 ∃H c' w',(Builtin.append_ #[t,t] N #[sL g n c0,.slice (some a) m c]).run P w=.ok (sL H (n+m) c') w'∧w'.ownsRow base e size (sL H (n+m) c') (n+m) (xs++news)∧w.grownBy w' (some g)∧En w w' g H (n*size) news:=by
 subst hsize;subst hby
 have D:n+m≤9223372036854775807:=by simp only [maxLen] at h63;omega
 have hlen:(xs++news).length=(n+m)*i.size:=by rw [GO,hown.1,hl,Nat.add_mul]
 have o:∀j u,xs[j]?=some u→w.cell? ((⟨g,0,none⟩:Addr).add j)=some u:=hown.cells (g:=g) rfl;have hx:=hown.1;rcases hown.2 with ⟨h,_⟩ | ⟨g0,cap,b,hv,J,hg,Z,F,K,r⟩
 · cases h
 · cases hv;by_cases hroom:n+m≤c0
   · have f:n*i.size+news.length≤b.size:=by rw [hl,K,← Nat.add_mul];exact Nat.mul_le_mul_right _ hroom
     have hr:=run_append_room (P:=P) w t N e i Q hi g n c0 b hg a m c news hl hnews h1 hroom f;refine ⟨g,c0,_,hr,⟨hlen,.inr ⟨g,c0,_,rfl,J,setRow_heap w g b _ e _ hg,hroom,F,?_,?_⟩⟩,⟨rfl,rfl,rfl,by simp,fun k _ hk=>setRow_other w g k _ (fun e=>hk (by rw [e]))⟩,.inr ⟨rfl,?_⟩⟩
     · simp only [Ir,GO,GS,G7,Array.length_toList];omega
     · rw [r,← hlen];exact List.take_left
     · intro base' e' size' n2 T ys ho;have W:=ho.1;rcases ho.2 with ⟨h,_⟩ | ⟨g1,R,U,hv1,O,x,s,I,Y,ht1⟩
       · cases h
       · cases hv1;rw [hg] at x;cases x;have hK:n*i.size+news.length≤b.toList.length:=by rw [Array.length_toList];exact f
         refine ⟨(b.toList.take (n*i.size)++news++b.toList.drop (n*i.size+news.length)).take (n2*size'),⟨?_,.inr ⟨g,T,_,rfl,O,setRow_heap w g b _ e _ hg,s,I,?_,rfl⟩⟩,fun j=>?_⟩
         · have h2:n2*size'≤T*size':=Nat.mul_le_mul_right _ s;simp only [GO,GS,G7,Array.length_toList];omega
         · simp only [Ir,GO,GS,G7,Array.length_toList];omega
         · rw [Db _ _ _ _ _ hK,ht1]
   · have hr:=run_append_grow (P:=P) w t N e i z Q hi hz ⟨g,0,none⟩ n c0 xs hown.1 o a m c news hl hnews (by omega) (by omega) (growslice_fits (by omega) hbytes);have E:=grownCap_ge w (n+m) c0 e;have y:=grownCap_le_maxLen w (n+m) c0 e h63;refine ⟨_,_,_,hr,⟨hlen,.inr ⟨w.heap.size,_,_,rfl,hbase,heap_alloc_new w.drew _,E,y,?_,?_⟩⟩,⟨rfl,rfl,rfl,by simp,fun k hk _=>(by first | exact heap_alloc_old w.drew _ k hk | exact heap_alloc_old w.drew _ hk)⟩,.inl ⟨rfl,?_⟩⟩
     · simp only [Array.size_append,Ir,size_zeroCells,hzs,hown.1,hl,← Nat.add_mul];congr 1
       omega
     · simp only [Array.toList_append,Hd];rw [← Hd,← hlen];exact List.take_left
     · exact (Below.refl _ w).drew.alloc (GL _) _
theorem fU {P:Program} {b:Array Oper} {o:Oper} {a:Act} {w:World} {K:Act→World→Prop} {Q:Exit→Act→World→Prop} {E:Prop}
 (hg:o.guard=none) (s x:Operand) (t:TypeId) (hop:o.op=Op.call { callee:=Callee.builtin Builtin.append,args:=#[s,x],argTypes:=#[t,t] })
 (base:Nat) (e:TypeId) (i:TypeInfo) (z:Value) (size bytes:Nat) (h1:P.underlying t=some (.slice e)) (h2:P.info? e=some i) (h3:i.zero=some z) (h4:i.size=size) (h5:i.bytes=bytes) (h6:z.cells.size=size) (h7:0<size)
 (g n c0:Nat) (olds:List Value) (hs:a.eval s=sL g n c0) (hown:w.ownsRow base e size (sL g n c0) n olds)
 (ad:Addr) (m c:Nat) (news:List Value) (hx:a.eval x=.slice (some ad) m c) (hn:news.length=m*size) (hc:∀j u,news[j]?=some u→w.cell? (ad.add j)=some u) (h1c:∀u ∈ news,u.oneCell'=true)
 (b1:n+m≤maxLen) (b2:(n+m)*bytes≤140737488355328) (b3:base≤w.heap.size)
 (hK:∀r c' w',w'.ownsRow base e size (sL r (n+m) c') (n+m) (olds++news)→w.grownBy w' (some g)→En w w' g r (n*size) news→K (a.put o.dst (sL r (n+m) c')) w') :
 if Region.wanted o (yielded b a.tmps)=true then Oper.wp P o a w K Q else E:=by
 have hw:Region.wanted o (yielded b a.tmps)=true:=by simp [Region.wanted,hg]
 rw [if_pos hw];obtain ⟨r,c',w',f,y,r2,r3⟩:=sJ (P:=P) w base t o.type e i z size bytes h1 h2 h3 h4 h5 h6 h7 g n c0 olds hown ad m c news hn hc h1c b1 b2 b3;unfold Oper.wp;simp [execOp,hop,resolve,invoke,builtin,hs,hx,f,Result.andThen];exact hK r c' w' y r2 r3
theorem bo.beside {b y h e u:Nat} {m:Int} (hB:bo b w h n d B) (hA:bo b w g n0 d0 A) (hg:w.grownBy w' (some g)) (hat:En w w' g y (n0*2) [sL e L.length u,iT m]) (hL:ag w b e L.length u L) (hm:(Lit.int .i64 m).wf=true):∃x,bo b w' h n d x∧∀p ∈ x,p ∈ B∨p=(L,m):=by
 rcases hat with ⟨_,hb⟩ | ⟨rfl,ho⟩
 · exact ⟨B,hB.below hb,fun _ h=>.inl h⟩
 obtain ⟨_,_,F,a3,_⟩:=hA;obtain ⟨N,D⟩:=aQ a3;by_cases o:h=y
 · subst o;obtain ⟨h1,h2,xs,h3,h4⟩:=hB;obtain ⟨I,q1,q2⟩:=ho _ _ _ _ _ _ h3;have E:=h3.1;have f:∀{e d:Nat} {L:List ac},ag w b e L.length d L→ag w' b e L.length d L:=fun {e d L} hO=>by
    obtain ⟨K,J⟩:=aQ hO.owns;refine hO.grown hg (fun s=>?_);have r:=GN s;subst r;exact absurd (D.kind J) (by decide)
   refine ⟨B.set n0 (L,m),⟨by rw [Jg];exact h1,fun p hp=>?_,I,q1,fun i p hp=>?_⟩,fun _ hp=>I8 hp⟩
   · rcases I8 hp with h | h
     · exact h2 p h
     · rw [h];exact hm
   · have t:i<B.length:=by have:=(F'.1 hp).1;rwa [Jg] at this
     by_cases hi:i=n0
     · subst hi;rw [Hp t] at hp;cases hp;refine ⟨e,u,?_,?_,f hL⟩
       · rw [q2,if_pos ⟨GL _,by simp,by omega⟩,IW];rfl
       · rw [q2,if_pos ⟨by omega,by simp,by omega⟩,show i*2+1 - i*2=1 by omega];rfl
     · rw [G9 (IX hi)] at hp;obtain ⟨s,H,a1,a2,a4⟩:=h4 i p hp;refine ⟨s,H,?_,?_,f a4⟩
       · rw [q2,if_neg (by simp;omega)];exact a1
       · rw [q2,if_neg (by simp;omega)];exact a2
 · exact ⟨B,hB.grownR D o hg,fun _ h=>.inl h⟩
end Go.Proofs.YtpobkmjicbobdaaGreat
namespace Go.Proofs.YtpobkmjicbobdaaGreat
open Go.RowKit
set_option maxRecDepth 100000
set_option maxHeartbeats 8000000
def iH (L:List ac):Prop:=∀e ∈ L,jX e.1 e.2.2.2.1 e.2.1 e.2.2.1 e.2.2.2.2
theorem kQ {k t:ByteArray} {q d n:Int} (h:jX k t q d n):d9 (k,q,d,t,n):=by
 obtain ⟨h1,h2,h3,h4,h5⟩:=h;exact ⟨by unfold n8 at h1;unfold maxLen;simp only;omega,h3,h4,by unfold n8 at h2;unfold maxLen;simp only;omega,h5⟩
theorem mE {L:List ac} (h:iH L):∀e ∈ L,d9 e:=fun e b=>kQ (h e b)
theorem fD {A B:List ac} (h:iH A) (k:iH B):iH (A++B):=fun e b=>(GX.1 b).elim (h e) (k e)
theorem eP {k t:ByteArray} {q d n:Int} (h:jX k t q d n):iH [(k,q,d,t,n)]:=fun e b=>by
 simp only [G5] at b
 subst b
 exact h
def Fp (R:Nat) (a:Option Addr) (len cap P many:Nat) (w:World) (e:Ending) (w':World):Prop :=
 ∃(g n c P':Nat) (L:List ac),e=.returned (sL g n c)∧ag w' w.heap.size g n c L∧n≤many∧iH L∧bh w' R a len cap P'∧P'≤P+1+8*many∧w.grownBy w' (some R)
theorem ag.gR {w w':World} {base g n c R:Nat} {L:List ac} (h:ag w base g n c L) (hg:w.grownBy w' (some R)) (hR:R<g):ag w' base g n c L:=h.grown hg (fun e=>by cases e;omega)
theorem yJ (R P many:Nat) (a:Option Addr) (len cap:Nat) (w:World) (h:bh w R a len cap P) (H:ud a len R) (hP:P<80000) (hm:many≤100) :
 Calls Tryz.prog 230 #[.pointer (pT R),iT many] w (Fp R a len cap P many w):=by
 obtain ⟨i0,hi,a8,aq,an⟩:=info_parts Tryz.infoEnt;have aN:=h.lt;have kt:Bl w (w.alloc (.cells #[] 50)):=bZ;have ap:Eq (ag (w.alloc (.cells #[] 50)) w.heap.size w.heap.size 0 0 []):=cK w _ (GL _);have R0:=h.below kt;have G0:w.grownBy (w.alloc (.cells #[] 50)) (some R):=aJ kt;have I:=az H;clear kt h H;go_enter Tryz.func230,Tryz.ntmps230
 go_wp2_with fail
 refine (dy R P a len cap _ _ R0 (by omega) (by omega)).mono ?_;rintro e w1 ⟨q1,rfl,Y,R1,g1⟩;have ab:=Y.1;have bc:q1≤many:=by have:=Y.2 (by omega);omega
 obtain ⟨I0,aE⟩:=Il ab;subst aE;have a4:Eq (ag w1 w.heap.size w.heap.size 0 0 []):=ap.o.gR g1 aN;have ax:Eq (w.grownBy w1 (some R)):=ae G0 g1;have af:Eq (bh w1 R a len cap (P+1)):=R1;clear G0 g1 R0 R1 ap Y ab;go_wp2;go_loopw [5,6,7] (fun ov sv iv wr=>∃(i sq n g c N:Nat) (L:List ac),iv=iT i∧sv=iT sq∧ov=sL g n c∧i+n≤many∧sq≤2*n∧N≤P+1+8*n∧ag wr w.heap.size g n c L∧iH L∧bh wr R a len cap N∧w.grownBy wr (some R)) (fun _ _ iv _=>(intOf iv).toNat)
 case atStart=>exact ⟨I0,0,0,w.heap.size,0,P+1,[],rfl,rfl,rfl,by omega,by omega,by omega,a4.o,(fun e he=>by cases he),af.o,ax.o⟩
 case round =>
  obtain ⟨i,sq,n,g,c,N,L,rfl,rfl,rfl,bo,bd,bn,hO,hF,hR,hG⟩:=hrel;have HO:Eq (ag wr w.heap.size g n c L):=hO;have HF:Eq (iH L):=hF;have HR:Eq (bh wr R a len cap N):=hR;have HG:Eq (w.grownBy wr (some R)):=hG;have bq:=hO.lt;have be:=hG.size;clear hO hF hR hG a4 ax af;by_cases aO:i=0
  · subst aO;go_wp2;go_ret;exact ⟨g,n,c,N,L,rfl,HO.o,by omega,HF.o,HR.o,by omega,HG.o⟩
  · have b9:(0:Int)<(i:Int):=by omega
    have b6:0<i:=by omega
    go_wp2_with fail
    refine (dy R N a len cap _ _ HR.o (by omega) (by omega)).mono ?_;rintro e w2 ⟨q2,rfl,W,R2,g2⟩;obtain ⟨S2,ao⟩:=Il W.1;subst ao;have ao:S2≤1:=by have:=W.2 (by omega);omega
    have aa:Eq (ag w2 w.heap.size g n c L):=HO.o.gR g2 (by omega);have am:Eq (w.grownBy w2 (some R)):=ae HG.o g2;have ad:Eq (bh w2 R a len cap (N+1)):=R2;have ba:=g2.size;clear R2 g2 W HO HG HR;go_wp2_with fail
    refine (iN R (N+1) a len cap _ _ ad.o (by omega) (Hu (by omega))).mono ?_;rintro e w3 ⟨s,t,q,d,nn,U,rfl,hE,R3,bg,g3⟩;have HE:Eq (jX s t q d nn):=hE;have ar:Eq (ag w3 w.heap.size g n c L):=aa.o.gR g3 (by omega);have aw:Eq (w.grownBy w3 (some R)):=ae am.o g3;have b8:=g3.size;obtain ⟨X,Q⟩:=aG w3.heap.size;obtain ⟨W3,m⟩:=aG (w3.alloc (.cells #[.string s,iT q,iT d,.string t,iT nn] 50));have k3:Bl w3 W3:=by rw [m];exact bZ
    have x0:W3.cell? ⟨X,0,none⟩=some (.string s):=by rw [m,Q];simp
    have x1:W3.cell? ⟨X,1,none⟩=some (iT q):=by rw [m,Q];simp
    have x2:W3.cell? ⟨X,2,none⟩=some (iT d):=by rw [m,Q];simp
    have x3:W3.cell? ⟨X,3,none⟩=some (.string t):=by rw [m,Q];simp
    have x4:W3.cell? ⟨X,4,none⟩=some (iT nn):=by rw [m,Q];simp
    have al:Eq (bh W3 R a len cap U):=R3.below k3;have K:Eq (ag W3 w.heap.size g n c L):=ar.o.below k3;have J:Eq (w.grownBy W3 (some R)):=ae aw.o (aJ k3);have bl:R<X:=by omega
    have b0:=k3.size;clear hE R3 g3 aa am ad ar aw k3;go_wp2_with fail
    rw [← m,← Q];clear m Q;refine (dy R U a len cap _ _ al.o (by omega) (by omega)).mono ?_;rintro e f ⟨q4,rfl,a6,R4,E⟩;obtain ⟨S4,aQ⟩:=Il a6.1;subst aQ;have u:X≠R:=by omega
    have Z:=GK _ _ x0;simp only at Z;have y0:=(au E (x:=⟨X,0,none⟩) Z u).trans x0;have y1:=(au E (x:=⟨X,1,none⟩) Z u).trans x1;have y2:=(au E (x:=⟨X,2,none⟩) Z u).trans x2;have y3:=(au E (x:=⟨X,3,none⟩) Z u).trans x3;have y4:=(au E (x:=⟨X,4,none⟩) Z u).trans x4;have aI:=GK _ _ y0;simp only at aI;have a5:Eq (bh f R a len cap (U+1)):=R4;have r:Eq (ag f w.heap.size g n c L):=K.o.gR E (by omega);have aj:Eq (w.grownBy f (some R)):=ae J.o E;have bj:=E.size;have bm:=r.o.lt;clear x0 x1 x2 x3 x4 R4 E al K J Z a6;have D:Bl f (f.alloc (.cells #[.string s,iT q,iT d,.string t,iT nn] 50)):=bZ;by_cases aD:S4=0
    · subst aD;have a3:Eq (ah (f.alloc (.cells #[.string s,iT q,iT d,.string t,iT nn] 50)) (some ⟨f.heap.size,0,none⟩) 1 1 [(s,q,d,t,nn)]):=eW f _ _ _ _ _ (kQ HE.o);go_wp2_with (at_builtin;refine wpList_append_own _ rfl _ _ 28 rfl w.heap.size 50 i0 _ 5 56 Tryz.underlying28 hi a8 aq an rfl (by decide) _ _ _ rfl (r.o.below D).owns ⟨f.heap.size,0,none⟩ 1 1 (aF [(s,q,d,t,nn)]) rfl rfl (ch a3.o) (bf _) (by unfold maxLen;omega) (by omega) (by have:=D.size;omega) ?_)
      intro v' F hown hgrow hnil;obtain ⟨g5,c5,rfl⟩:∃g cap,v'=sL g (n+1) cap:=by
       rcases hown.2 with ⟨hv,h0⟩ | ⟨g,cap,aA,hv,_⟩
       · omega
       · exact ⟨g,cap,hv⟩
      have b:(f.alloc (.cells #[.string s,iT q,iT d,.string t,iT nn] 50)).grownBy F (some g):=hgrow;have T:Eq (ag F w.heap.size g5 (n+1) c5 (L++[(s,q,d,t,nn)])):=⟨by rw [bC];exact hown,by simp [r.o.len],mE (fD HF.o (eP HE.o))⟩;have a0:Eq (bh F R a len cap (U+1)):=(a5.o.below D).grown b I.o (fun k e=>by cases e;omega);have O:Eq (w.grownBy F (some R)):=aH (ae aj.o (aJ D)) (by omega) b;clear hown hgrow b hnil a3 D;go_wp2;go_roundw
      case rel=>exact ⟨i - 1,sq+1+S2,n+1,g5,c5,U+1,L++[(s,q,d,t,nn)],by congr 1;omega,by congr 1,rfl,by omega,by omega,by omega,T.o,fD HF.o (eP HE.o),a0.o,O.o⟩
      case measure=>simp [intOf];omega
    · have ak:¬(S4:Int)=0:=by omega
      have b5:((S4:Int) == 0)=false:=by simpa using ak
      have y:ag (f.alloc (.cells #[.string s,iT q,iT d,.string t,iT nn] 50)) w.heap.size f.heap.size 1 1 [(s,q,d,t,nn)]:=by
       have:=Hi (base:=w.heap.size) (e:=50) (size:=5) f #[.string s,iT q,iT d,.string t,iT nn] 1 (by omega) (by unfold maxLen;omega) rfl;exact ⟨by simpa [aF,bi] using this,rfl,mE (eP HE.o)⟩
      have a2:Eq (ag (f.alloc (.cells #[.string s,iT q,iT d,.string t,iT nn] 50)) w.heap.size f.heap.size 1 1 [(s,q,d,t,nn)]):=y;clear y;go_wp2_with (at_builtin;refine wpList_append_own _ rfl _ _ 28 rfl w.heap.size 50 i0 _ 5 56 Tryz.underlying28 hi a8 aq an rfl (by decide) _ _ _ rfl a2.o.owns ⟨g,0,none⟩ n c (aF L) rfl (by rw [aX,r.o.len]) (ch (r.o.below D).entsAt) (bf _) (by unfold maxLen;omega) (by omega) (by have:=D.size;omega) ?_)
      intro v' F hown hgrow hnil;obtain ⟨g5,c5,rfl⟩:∃g cap,v'=sL g (1+n) cap:=by
       rcases hown.2 with ⟨hv,h0⟩ | ⟨g,cap,aA,hv,_⟩
       · omega
       · exact ⟨g,cap,hv⟩
      have b:(f.alloc (.cells #[.string s,iT q,iT d,.string t,iT nn] 50)).grownBy F (some f.heap.size):=hgrow;have T:Eq (ag F w.heap.size g5 (1+n) c5 ([(s,q,d,t,nn)]++L)):=⟨by rw [bC];exact hown,by simp [r.o.len];omega,mE (fD (eP HE.o) HF.o)⟩;have a0:Eq (bh F R a len cap (U+1)):=(a5.o.below D).grown b I.o (fun k e=>by cases e;omega);have O:Eq (w.grownBy F (some R)):=aH (ae aj.o (aJ D)) (by omega) b;clear hown hgrow b hnil a2 D;go_wp2;go_roundw
      case rel=>exact ⟨i - 1,sq+1+S2,1+n,g5,c5,U+1,[(s,q,d,t,nn)]++L,by congr 1;omega,by congr 1,rfl,by omega,by omega,by omega,T.o,fD (eP HE.o) HF.o,a0.o,O.o⟩
      case measure=>simp [intOf];omega
end Go.Proofs.YtpobkmjicbobdaaGreat
namespace Go.Proofs.YtpobkmjicbobdaaGreat
open Go.RowKit
set_option maxRecDepth 100000
set_option maxHeartbeats 8000000
end Go.Proofs.YtpobkmjicbobdaaGreat
namespace Go.Proofs.YtpobkmjicbobdaaGreat
open Go.RowKit
set_option maxRecDepth 100000
set_option maxHeartbeats 8000000
end Go.Proofs.YtpobkmjicbobdaaGreat
namespace Go.Proofs.YtpobkmjicbobdaaGreat
set_option maxRecDepth 100000
set_option maxHeartbeats 40000000
open Go.RowKit
theorem Ck (a:Option Addr) (len cap:Nat) (L:List ac) (w:World) (hL:ah w a len cap L) (hlen:len≤1048576) :
 Calls Tryz.prog 229 #[.slice a len cap] w fun e w'=>∃g c,e=.returned (sL g len c)∧ag w' w.heap.size g len c (aS L)∧Bl w w':=by
 have m:=az hL.length;have U:=hL.room;have y:=hL.big;unfold maxLen at y;have T:=az hL;have J:ag (w.alloc (.cells #[] 50)) w.heap.size w.heap.size 0 0 (aS (L.take 0)):=cK w _ (GL _);have F:=az J;have H:Bl w (w.alloc (.cells #[] 50)):=bZ;go_enter Tryz.func229,Tryz.ntmps229
 go_wp2;go_loopw [3,4] (fun ov N wr=>∃(k g c:Nat),k≤len∧N=iT k∧ov=sL g k c∧ag wr w.heap.size g k c (aS (L.take k))∧Bl w wr) (fun _ N _=>len - (intOf N).toNat)
 case atStart=>exact ⟨0,w.heap.size,0,GQ _,rfl,rfl,F.o,H⟩
 case round =>
  obtain ⟨k,g,c,hk,rfl,rfl,hO,hb⟩:=hrel;have E:=az hO;by_cases u:k<len
  · obtain ⟨b,Z,rfl,r⟩:=T.o.form (by omega);obtain ⟨s,q,d,t,n,hg,O,g0,g1,g2,g3,g4⟩:=T.o.ent hb r k u;have W:=az hg;have Q:=az O;have Y:=E' r hb.size;go_wp2_with fail
    refine (uk g k c (aS (L.take k)) s t q d n _ E.o.entsAt E.o.lt.2 (by omega) Q.o).mono ?_;rintro e R ⟨f,c1,rfl,x,K⟩;have I:Eq (ag R w.heap.size f (k+1) c1 (aS (L.take (k+1)))):=by
     show ag R w.heap.size f (k+1) c1 (aS (L.take (k+1)))
     rw [xU W.o];exact x.mono hb.size
    go_wp2;go_roundw
    case rel=>exact ⟨k+1,f,c1,by omega,by go_num,rfl,I.o,hb.trans (K.mono hb.size)⟩
    case measure=>simp [intOf];omega
  · have D:k=len:=by omega
    subst D;go_wp2;go_ret;refine ⟨g,c,rfl,?_,hb⟩;have:=E.o;rw [GV (by rw [m.o];omega)] at this;exact this
end Go.Proofs.YtpobkmjicbobdaaGreat
namespace Go.Proofs.YtpobkmjicbobdaaGreat
open Go.RowKit
set_option maxRecDepth 100000
def lT (w:World) (a:Option Addr) (len cap:Nat):Prop:=len≤cap∧cap≤maxLen∧(len=0∨∃b off,a=some ⟨b,off,none⟩∧b<w.heap.size∧∀i,i<len→∃z:Nat,z≤255∧w.cell? ⟨b,off+i,none⟩=some (.int .u8 z))
theorem lT.keep {w w':World} {a:Option Addr} {len cap:Nat} (h:lT w a len cap) (hb:Bl w w'):lT w' a len cap:=by
 obtain ⟨h1,h2,h3⟩:=h;refine ⟨h1,h2,?_⟩;rcases h3 with e | ⟨b,m,ha,f,hc⟩
 · exact Or.inl e
 · exact Or.inr ⟨b,m,ha,E' f hb.size,fun i hi=>by obtain ⟨z,hz,o⟩:=hc i hi;exact ⟨z,hz,cell_later hb o⟩⟩
end Go.Proofs.YtpobkmjicbobdaaGreat
namespace Go.Proofs.YtpobkmjicbobdaaGreat
set_option maxRecDepth 100000
open Go.RowKit Go.Joins Go.ChangeShapes Go.WideShapes Go.ChangeAt
theorem Tryz.cellsU8:Tryz.prog.cellsOf 5=1:=by kernel_rfl
theorem yq {H:Type} {enc:TypeId × Value→H} {W:World} {b0 base:Nat} {v:Value} {d:DataW H} {p:List MemPlace} {held:Bool}
 (hv:Value.okWide Tryz.prog W .any b0 38 v) (h:DataW.Trod enc Tryz.prog W base (fun _=>true) held 38 v d p) :
 ∃(a:Option Addr) (len cap:Nat),v=.slice a len cap∧lT W a len cap:=by
 obtain ⟨a1,len,cap,rfl⟩:=okWide_slice Tryz.underlying38 hv;obtain ⟨x,hf⟩:=h;rcases Go.ChangeShapes.open_ints Tryz.underlying38 Tryz.underlying5 Tryz.cellsU8 hf with ⟨e,hx⟩ | ⟨a,u,t,zs,e,_,hl,hm,hz,hx,b,r⟩
 · simp [Value.cells] at e;obtain ⟨rfl,rfl,rfl⟩:=e;exact ⟨none,0,0,rfl,GL _,GQ _,Or.inl rfl⟩
 · simp [Value.cells] at e;obtain ⟨rfl,rfl,rfl⟩:=e;simp only [if_true] at hz;refine ⟨some a,len,cap,rfl,hl,hm,?_⟩;by_cases h0:len=0
   · exact Or.inl h0
   right
   obtain ⟨D,y,m⟩:=a;have f:m=none:=by simpa [Addr.add] using World.cell?_spot (b 0 (by omega))
   subst f;refine ⟨D,y,rfl,?_,fun i hi=>?_⟩
   · have:=GK _ _ (b 0 (by omega));simpa [Addr.add] using this
   · have hc:=b i (by omega);rw [Addr.add_lit] at hc;have o:zs.getD i 0 ∈ zs:=by
      have hi':i<zs.length:=by omega
      rw [List.getD_eq_getElem?_getD,j' hi'];exact Hj hi'
     have hb:=bounds_u8 (r _ o);obtain ⟨z,s⟩:=Il hb.1;rw [s] at hc hb;exact ⟨z,by omega,hc⟩
end Go.Proofs.YtpobkmjicbobdaaGreat
