/- Walks. -/
import Derived.Test.YtpobkmjicbobdaaGreatBD30
namespace Go.Proofs.YtpobkmjicbobdaaGreat
set_option maxRecDepth 100000
set_option maxHeartbeats 40000000
open Go.RowKit
variable {M:List ac} {P R X cap cm cs cv len lo lo' nm ns nv:Nat} {S:List Int} {V:List (List af)} {a ak am av:Option Addr} {q:Int} {w w' wi wj:World}
def F3 (R:Nat) (a:Option Addr) (len cap P d:Nat) (w:World) (e:Ending) (w':World):Prop:=∃q am nm cm av nv cv ak ns cs P',e=.returned (.agg #[iT q,.slice am nm cm,.slice av nv cv,.slice ak ns cs])∧e9 w.heap.size R w' (.agg #[iT q,.slice am nm cm,.slice av nv cv,.slice ak ns cs])∧bf w' R a len cap P'∧P'≤P+d∧w.grownBy w' (some R)∧rk (.agg #[iT q,.slice am nm cm,.slice av nv cv,.slice ak ns cs])
theorem e9.low {v:Value} (h:e9 lo R w v) (hl:lo'≤lo):e9 lo' R w v:=by
 rcases h with h | h
 · obtain ⟨q,am,nm,cm,G,c,ak,ns,cs,g,d,e1,m,o,e2,n2,f,M,A,B,C,S,e,n,b⟩:=h;exact .inl ⟨q,am,nm,cm,G,c,ak,ns,cs,g,d,e1,m,o,e2,n2,f,M,A,B,C,S,e,n.mono hl,b⟩
 · exact .inr h
theorem x6 (R P:Nat) (a:Option Addr) (len cap:Nat) (w:World) (h:bf w R a len cap P) (s:tC a len R) (hP:P<60000) :
 Calls Tryz.prog 78 #[.pointer (pT R)] w (F3 R a len cap P 7000 w):=by
 obtain ⟨Z,T⟩:=aF w.heap.size;obtain ⟨W,Q⟩:=aF (w.alloc (.cells #[iT 0,nZ,nZ,nZ] 31));have U:Bl w W:=by rw [Q];exact bZ
 have br:ay W Z (iT 0) nZ nZ nZ∧aq W Z 31 4:=by rw [Q,T];exact ⟨ay.new _ _ _ _ _ _,cU w #[iT 0,nZ,nZ,nZ] 31⟩
 have I:=h.lt;have D:Eq (w.heap.size≤Z∧R<w.heap.size∧tC a len R):=⟨Nat.le_of_eq T.symm,I,s⟩;have E:Eq (bf W R a len cap P):=h.below U;have t:Eq (Bl w W):=U;have C:Eq (ay W Z (iT 0) nZ nZ nZ∧aq W Z 31 4):=br;clear h s br U I;go_enter Tryz.func78,Tryz.ntmps78
 go_wp2_with fail
 rw [← Q,← T];clear Q T;refine (xZ R P a len cap W E.o D.o.2.2 hP).mono ?_;rintro e O ⟨v,P1,rfl,u,N,a4,g,F,_⟩;obtain ⟨q,am,nm,cm,av,nv,cv,ak,ns,cs,rfl⟩:=u.val;have J:Eq (W.grownBy O (some R)):=g;have d:Z≠R:=by have:=D.o;omega
 have A:Eq (ay O Z (iT 0) nZ nZ nZ∧aq O Z 31 4):=⟨C.o.1.grownB g d,C.o.2.grown g d⟩;go_wp2_with fail
 refine (x7 R P1 W.heap.size a len cap _ O N D.o.2.2 (by omega) (by have:=t.o.size;have:=D.o;omega) g.size u).mono ?_;rintro e K ⟨v,Y,rfl,B,L,a6,n,H⟩;have x:=H F;clear H F;obtain ⟨q,am,nm,cm,av,nv,cv,ak,ns,cs,rfl⟩:=B.val;have x:Eq (rk (.agg #[iT q,.slice am nm cm,.slice av nv cv,.slice ak ns cs])):=x;have m:Eq (ay K Z (iT 0) nZ nZ nZ∧aq K Z 31 4):=⟨A.o.1.grownB n d,A.o.2.grown n d⟩;have a1:Eq (e9 W.heap.size R K (.agg #[iT q,.slice am nm cm,.slice av nv cv,.slice ak ns cs])):=B;have HY:Eq (bf K R a len cap Y∧w.grownBy K (some R)):=⟨L,ae (aJ t.o) (ae J.o n)⟩;have a0:Y≤P+7000:=by omega
 have r0:=m.o.1.all;clear B L n u N g A J C E;go_wp2;refine bodyPost_ret (v:=.agg #[iT q,.slice am nm cm,.slice av nv cv,.slice ak ns cs]) ?_ rfl ⟨q,am,nm,cm,av,nv,cv,ak,ns,cs,Y,rfl,(a1.o.four m.o.2 m.o.1).low t.o.size,?_,a0,?_,x.o⟩
 · have e:=(((m.o.1.set0 (iT q)).set1 (.slice am nm cm)).set2 (.slice av nv cv)).set3 (.slice ak ns cs);simp [results,Tryz.results78,go_sem,e.all]
 · have f:∀b y,a=some ⟨b,y,none⟩→0<len→b≠Z:=fun b y e hl=>by
    have:=D.o;rcases this.2.2 with h0 | h0
    · omega
    · have:=h0 b y e;omega
   exact (((HY.o.1.other d f _ _).other d f _ _).other d f _ _).other d f _ _
 · have r:w.heap.size≤Z:=D.o.1;exact aH (aH (aH (aH HY.o.2 r (dg _ _ _ _)) r (dg _ _ _ _)) r (dg _ _ _ _)) r (dg _ _ _ _)
def DP (w:World) (q:Int) (am:Option Addr) (nm cm:Nat) (av:Option Addr) (nv cv:Nat) (ak:Option Addr) (ns cs:Nat) (M:List ac) (V:List (List af)) (S:List Int):Prop:=(Lit.int .i64 q).wf=true∧bn 0 w am nm cm av nv cv ak ns cs M V S∧pe w av V∧(∃g,ak=some ⟨g,0,none⟩)∧∃g,am=some ⟨g,0,none⟩
theorem pe.keep (h:pe w av V) (hb:Bl w w'):pe w' av V:=fun i B hB=>by
 obtain ⟨b,e,n,c,h1,h2⟩:=h i B hB
 exact ⟨b,e,n,c,h1,cell_later hb h2⟩
theorem DP.keep (h:DP w q am nm cm av nv cv ak ns cs M V S) (hb:Bl w w'):DP w' q am nm cm av nv cv ak ns cs M V S:=⟨h.1,h.2.1.keep hb,h.2.2.1.keep hb,h.2.2.2⟩
structure wR (w wi:World) (R X:Nat) (a:Option Addr) (len cap P:Nat):Prop where
 rd:bf wi R a len cap P
 low:tC a len R
 bx:ay wi X (iT 0) nZ nZ nZ
 kx:aq wi X 31 4
 bl:Bl w wi
 top:w.heap.size≤X∧X<R
theorem wR.below (h:wR w wi R X a len cap P) (hb:Bl wi wj):wR w wj R X a len cap P :=
 ⟨h.rd.below hb,h.low,h.bx.keep hb,h.kx.below hb,h.bl.trans (hb.mono h.bl.size),h.top⟩
theorem wR.read {P':Nat} (h:wR w wi R X a len cap P) (hg:wi.grownBy wj (some R)) (hr:bf wj R a len cap P'):wR w wj R X a len cap P' :=
 have e:X≠R:=by have:=h.top;omega
 ⟨hr,h.low,h.bx.grownB hg e,h.kx.grown hg e,h.bl.grown hg h.bl.size (fun k e=>by cases e;have:=h.top;omega),h.top⟩
theorem we {W:World} (n:Bl w W) (m:len=0∨∃b d,a=some ⟨b,d,none⟩∧b<w.heap.size∧∀i,i<len→∃z:Nat,z≤255∧w.cell? ⟨b,d+i,none⟩=some (.int .u8 z)):len=0∨∃b d,a=some ⟨b,d,none⟩∧b<W.heap.size∧∀i,i<len→∃z:Nat,z≤255∧W.cell? ⟨b,d+i,none⟩=some (.int .u8 z):=by
 rcases m with h0 | ⟨b,d,ha,f,e⟩
 · exact Or.inl h0
 · exact Or.inr ⟨b,d,ha,E' f n.size,fun i hi=>by obtain ⟨z,hz,g⟩:=e i hi;exact ⟨z,hz,cell_later n g⟩⟩
theorem Cq {d:World} (h:bf d R a len cap P) (hs:d.heap.size=R+1):tC a len R:=by
 rcases h.bytes with h0 | ⟨b,g,ha,h1,h2,_⟩
 · exact Or.inl h0
 · exact Or.inr (fun b' f e=>by rw [ha] at e;cases e;omega)
theorem e9.treX (h:e9 lo R w (.agg #[iT q,.slice am nm cm,.slice av nv cv,.slice ak ns cs])) (hk:aq w X 31 4) (d:ay w X (iT 0) nZ nZ nZ) (hs:rk (.agg #[iT q,.slice am nm cm,.slice av nv cv,.slice ak ns cs])) (u0:Int) (a1 a2 a3:Option Addr) (m1 k1 m2 k2 m3 k3:Nat):∃M V S,DP ((((w.setCell ⟨X,0,none⟩ (iT u0)).setCell ⟨X,1,none⟩ (.slice a1 m1 k1)).setCell ⟨X,2,none⟩ (.slice a2 m2 k2)).setCell ⟨X,3,none⟩ (.slice a3 m3 k3)) q am nm cm av nv cv ak ns cs M V S:=by
 obtain ⟨y,g,b,t,s,u,r,f,m,o,M,V,S,e,h1,h2,h3,_⟩:=(h.four hk d).treeIn;cases e;obtain ⟨_,n,_,_,_,_,_,x,_,_,e⟩:=hs;exact ⟨M,V,S,h1,h2,h3,⟨x,by simp at e;simp [e]⟩,⟨n,by simp at e;simp [e]⟩⟩
def F6 (w:World) (e:Ending) (w':World):Prop:=∃q am nm cm av nv cv ak ns cs M V S,∃sq:Int,e=.returned (.tuple #[.agg #[iT q,.slice am nm cm,.slice av nv cv,.slice ak ns cs],iT sq])∧DP w' q am nm cm av nv cv ak ns cs M V S∧Bl w w'
theorem Bh (h:e9 lo R w (.agg #[iT q,.slice am nm cm,.slice av nv cv,.slice ak ns cs])):∃S,aR 0 w ak ns cs S:=by
 obtain ⟨t,m,f,o,n,s,d,g,r,b,M,T,S,e,_,h2,_⟩:=h.treeIn;cases e;exact ⟨S,h2.snaps⟩
theorem Fn (h:e9 lo R w (.agg #[iT q,.slice am nm cm,.slice av nv cv,.slice ak ns cs])):ns≤1000000:=by
 obtain ⟨t,r,f,d,n,o,m,s,b,g,M,T,S,e,_,_,_,h⟩:=h.treeIn;cases e;omega
theorem wK (h:e9 lo R w (.agg #[iT q,.slice am nm cm,.slice av nv cv,.slice ak ns cs])) {j:Nat} (e:j<ns):∃b d z,ak=some ⟨b,d,none⟩∧w.cell? ⟨b,d+j,none⟩=some (iT z)∧b<w.heap.size:=by
 obtain ⟨S,hS⟩:=Bh h;obtain ⟨b,d,rfl,hb⟩:=hS.form (by omega);obtain ⟨z,_,_,hz⟩:=hS.num (Below.refl _ w) j e;exact ⟨b,d,z,rfl,hz,hb⟩
theorem qR (a:Option Addr) (len cap:Nat) (w:World) (hb:lA w a len cap) :
 Calls Tryz.prog 44 #[.slice a len cap] w (F6 w):=by
 obtain ⟨X,hX⟩:=aF w.heap.size;obtain ⟨W,hW⟩:=aF (w.alloc (.cells #[iT 0,nZ,nZ,nZ] 31));have kW:Bl w W:=by rw [hW];exact bZ
 have br:ay W X (iT 0) nZ nZ nZ∧aq W X 31 4:=by rw [hW,hX];exact ⟨ay.new _ _ _ _ _ _,cU w #[iT 0,nZ,nZ,nZ] 31⟩
 obtain ⟨al,aA,ao⟩:=hb;have ab:=we kW ao;have HK:Eq (w.heap.size≤X∧X<W.heap.size∧Bl w W):=⟨Nat.le_of_eq hX.symm,br.1.lt,kW⟩;have HB:Eq (ay W X (iT 0) nZ nZ nZ∧aq W X 31 4):=br;clear br kW ao;go_enter Tryz.func44,Tryz.ntmps44
 go_wp2_with fail
 rw [← hW];try rw [← hX]
 clear hW hX;refine (xY a len cap _ al aA ab).mono ?_;rintro e L ⟨d,rfl,a9,a8,Q⟩;obtain ⟨R,hR⟩:=aF W.heap.size;rw [← hR] at a9 Q;rw [← hR];have S1:Eq (wR w L R X a d cap 0):=⟨a9,Cq a9 Q,HB.o.1.keep a8,HB.o.2.below a8,HK.o.2.2.trans (a8.mono HK.o.2.2.size),HK.o.1,by rw [hR];exact HK.o.2.1⟩;clear al aA ab a9 a8 Q hR HK HB;go_wp2_with fail
 refine (x6 R 0 a d cap L S1.o.rd S1.o.low (by omega)).mono ?_;rintro e w2 ⟨q,am,nm,cm,av,nv,cv,ak,ns,cs,N,rfl,au,aG,b1,aj,ap⟩;have a5:Eq (rk (.agg #[iT q,.slice am nm cm,.slice av nv cv,.slice ak ns cs])):=ap;have S2:Eq (wR w w2 R X a d cap N):=S1.o.read aj aG;have aD:Eq (e9 L.heap.size R w2 (.agg #[iT q,.slice am nm cm,.slice av nv cv,.slice ak ns cs])):=au;have a6:Eq (R<L.heap.size∧L.heap.size≤w2.heap.size):=⟨S1.o.rd.lt,aj.size⟩;clear S1 au aG aj ap;obtain ⟨Y,hY⟩:=aF w2.heap.size;obtain ⟨w3,a4⟩:=aF (w2.alloc (.cells #[iT q,.slice am nm cm,.slice av nv cv,.slice ak ns cs] 31));have k3:Bl w2 w3:=by rw [a4];exact bZ
 have J:Eq (ay w3 Y (iT q) (.slice am nm cm) (.slice av nv cv) (.slice ak ns cs)):=by rw [a4,hY];exact ay.new _ _ _ _ _ _
 have S3:Eq (wR w w3 R X a d cap N):=S2.o.below k3;have a0:Eq (e9 L.heap.size R w3 (.agg #[iT q,.slice am nm cm,.slice av nv cv,.slice ak ns cs])):=aD.o.below k3;have I:Eq (X<Y∧R<Y∧R<w3.heap.size):=by have:=S2.o.rd.lt;have:=S2.o.top;have:=S3.o.rd.lt;exact ⟨by omega,by omega,this⟩
 clear S2 aD k3;go_upto_region 3 with fail
 rw [← a4];try rw [← hY]
 clear a4 hY;have g:Eq (∀w',ay w' Y (iT q) (.slice am nm cm) (.slice av nv cv) (.slice ak ns cs)→(fun w':World=>w'.cell? ⟨Y,0,none⟩=some (iT q)∧w'.cell? ⟨Y,1,none⟩=some (.slice am nm cm)∧w'.cell? ⟨Y,2,none⟩=some (.slice av nv cv)∧w'.cell? ⟨Y,3,none⟩=some (.slice ak ns cs)∧Y<w'.heap.size) w'):=fun w' b=>⟨b.c0,b.c1,b.c2,b.c3,b.lt⟩
 have x3:=J.o.c3;have xz:=J.o.lt;by_cases b3:0<ns
 · have aV:(ns:Int) > 0:=by omega
   go_wp2_with fail
   clear x3 xz;refine (cJ R N a d cap 3 _ S3.o.rd (by omega) (by omega)).mono ?_;rintro e D ⟨z,rfl,_,az,a7⟩;have H:Y≠R:=by have:=I.o;omega
   have S6:Eq (wR w D R X a d cap (N+1)):=S3.o.read a7 az;have U:Eq (e9 L.heap.size R D (.agg #[iT q,.slice am nm cm,.slice av nv cv,.slice ak ns cs])):=a0.o.read S3.o.rd a6.o.1 a7;have O:Eq (ay D Y (iT q) (.slice am nm cm) (.slice av nv cv) (.slice ak ns cs)):=J.o.grownB a7 H;clear az a7 S3 a0 J;by_cases b0:z > 0
   · have aw:(ns:Int)≤1000000:=by have:=Fn U.o;omega
     have x:=O.o;have x0:=x.all;go_upto_region 4 with fail
     clear x x0;have F:=(Below.refl D.heap.size D).drew;have S7:Eq (wR w D.drew R X a d cap (N+1)):=S6.o.below F;have ah:Eq (e9 L.heap.size R D.drew (.agg #[iT q,.slice am nm cm,.slice av nv cv,.slice ak ns cs])):=U.o.below F;have s:Eq (ay D.drew Y (iT q) (.slice am nm cm) (.slice av nv cv) (.slice ak ns cs)):=O.o.keep F;clear F S6 U O;refine eJ g s.o fun r=>?_
     generalize D.drew=wd at r S7 ah s ⊢;refine aO 0 7 r ?_;refine aS 7 fun K hK=>?_
     go_simp;refine (cJ R (N+1) a d cap (ns:Int) _ S7.o.rd (by omega) aw).mono ?_;rintro e C ⟨kc,rfl,af,B,n⟩;have f:Eq (wR w C R X a d cap (N+1+1)):=S7.o.read n B;have A:Eq (e9 L.heap.size R C (.agg #[iT q,.slice am nm cm,.slice av nv cv,.slice ak ns cs])):=ah.o.read S7.o.rd a6.o.1 n;have y:=s.o.grownB n H;clear s;have s:Eq (ay C Y (iT q) (.slice am nm cm) (.slice av nv cv) (.slice ak ns cs)):=y;have aP:0≤kc:=af.1;have al:kc<(ns:Int):=af.2 (by omega);obtain ⟨kn,rfl⟩:=Hk aP;have ar:kn<ns:=by omega
     clear y af B n S7 ah;go_wp2_with fail
     refine hK.o _ _ (g.o _ s.o) fun r=>?_
     (try go_frame);obtain ⟨b,u,z9,rfl,aE⟩:=wK A.o ar;have HZ:Eq (C.cell? ⟨b,u+kn,none⟩=some (iT z9)∧b<C.heap.size):=aE;clear aE;refine aO 8 1 r ?_;have t:Eq (∀u0 u1 u2 u3,ay ((((C.setCell ⟨X,0,none⟩ u0).setCell ⟨X,1,none⟩ u1).setCell ⟨X,2,none⟩ u2).setCell ⟨X,3,none⟩ u3) Y (iT q) (.slice am nm cm) (.slice av nv cv) (sO b u ns cs)):=fun u0 u1 u2 u3=>by
      have m:X≠Y:=by have:=I.o;omega
      exact (((s.o.other m _).other m _).other m _).other m _
     refine lI 9 10 (fun K hK=>?_) (fun K hK=>?_)
     · have hz:=HZ.o.1;have ad:=HZ.o.2;go_simp;clear hz ad;refine hK.o _ _ (g.o _ s.o) fun r=>?_
       (try go_frame);refine aS 10 fun K hK=>?_
       have r0:=f.o.bx.all;go_simp;refine hK.o _ _ (g.o _ (t.o _ _ _ _)) (fun r=>?_);clear hK K r0;(try go_frame);refine aO 11 1 r ?_;refine dN ?_;clear r g t;go_wp2;obtain ⟨M,T,S,hT⟩:=A.o.treX f.o.kx f.o.bx a5.o q am av (some ⟨b,u,none⟩) nm cm nv cv ns cs;refine bodyPost_ret (v:=.tuple #[.agg #[iT q,.slice am nm cm,.slice av nv cv,sO b u ns cs],iT z9]) ?_ rfl ⟨q,am,nm,cm,av,nv,cv,_,ns,cs,M,T,S,z9,rfl,hT,((((f.o.bl.setCell (p:=⟨X,0,none⟩) f.o.top.1 _).setCell (p:=⟨X,1,none⟩) f.o.top.1 _).setCell (p:=⟨X,2,none⟩) f.o.top.1 _).setCell (p:=⟨X,3,none⟩) f.o.top.1 _)⟩;have e:=(((f.o.bx.set0 (iT q)).set1 (.slice am nm cm)).set2 (.slice av nv cv)).set3 (sO b u ns cs);simp [results,Tryz.results44,go_sem,e.all]
     · have r0:=f.o.bx.all;go_simp;refine hK.o _ _ (g.o _ (t.o _ _ _ _)) (fun r=>?_);clear hK K r0;(try go_frame);obtain ⟨b8,aW,z8,e8,ae⟩:=wK (A.o.four f.o.kx f.o.bx (q:=q) (a1:=am) (m1:=nm) (k1:=cm) (a2:=av) (m2:=nv) (k2:=cv) (a3:=some ⟨b,u,none⟩) (m3:=ns) (k3:=cs)) ar;cases e8;refine aS 9 fun K hK=>?_
       have hz:=ae.1;have ad:=ae.2;have hzs:=HZ.o.2;go_simp;refine hK.o _ _ (g.o _ (t.o _ _ _ _)) (fun r=>?_);clear hK K hz ad hzs ae;(try go_frame);refine aO 11 1 r ?_;refine dN ?_;clear r g t;go_wp2;obtain ⟨M,T,S,hT⟩:=A.o.treX f.o.kx f.o.bx a5.o q am av (some ⟨b,u,none⟩) nm cm nv cv ns cs;refine bodyPost_ret (v:=.tuple #[.agg #[iT q,.slice am nm cm,.slice av nv cv,sO b u ns cs],iT z8]) ?_ rfl ⟨q,am,nm,cm,av,nv,cv,_,ns,cs,M,T,S,z8,rfl,hT,((((f.o.bl.setCell (p:=⟨X,0,none⟩) f.o.top.1 _).setCell (p:=⟨X,1,none⟩) f.o.top.1 _).setCell (p:=⟨X,2,none⟩) f.o.top.1 _).setCell (p:=⟨X,3,none⟩) f.o.top.1 _)⟩;have e:=(((f.o.bx.set0 (iT q)).set1 (.slice am nm cm)).set2 (.slice av nv cv)).set3 (sO b u ns cs);simp [results,Tryz.results44,go_sem,e.all]
   · have x:=O.o;have x3:=x.c3;have xz:=x.lt;clear x;have F:=(Below.refl D.heap.size D).drew;have Z:Eq (wR w D.drew R X a d cap (N+1)):=S6.o.below F;have E:Eq (e9 L.heap.size R D.drew (.agg #[iT q,.slice am nm cm,.slice av nv cv,.slice ak ns cs])):=U.o.below F;have s:Eq (ay D.drew Y (iT q) (.slice am nm cm) (.slice av nv cv) (.slice ak ns cs)):=O.o.keep F;clear F S6 U O;go_upto_region 5 with fail
     clear x3 xz;refine eJ g s.o fun r=>?_
     generalize D.drew=wd at r Z E s ⊢;refine aO 0 2 r ?_;refine aS 2 fun K hK=>?_
     go_simp;refine (cJ R (N+1) a d cap 20 _ Z.o.rd (by omega) (by omega)).mono ?_;rintro e C ⟨z,rfl,hz,B,n⟩;have H:Y≠R:=by have:=I.o;omega
     have aT:IntKind.i64.wrap (z - 1)=z - 1:=by have:=hz.1;have:=hz.2 (by omega);rw [GB];unfold wrap64;omega
     have f:Eq (wR w C R X a d cap ((N+1)+1)):=Z.o.read n B;have A:Eq (e9 L.heap.size R C (.agg #[iT q,.slice am nm cm,.slice av nv cv,.slice ak ns cs])):=E.o.read Z.o.rd a6.o.1 n;have y:=s.o.grownB n H;clear s;have s:Eq (ay C Y (iT q) (.slice am nm cm) (.slice av nv cv) (.slice ak ns cs)):=y;clear y hz B n Z E;go_wp2_with fail
     refine hK.o _ _ (g.o _ s.o) fun r=>?_
     (try go_frame);refine aO 3 1 r ?_;have t:Eq (∀u0 u1 u2 u3,ay ((((C.setCell ⟨X,0,none⟩ u0).setCell ⟨X,1,none⟩ u1).setCell ⟨X,2,none⟩ u2).setCell ⟨X,3,none⟩ u3) Y (iT q) (.slice am nm cm) (.slice av nv cv) (.slice ak ns cs)):=fun u0 u1 u2 u3=>by
      have m:X≠Y:=by have:=I.o;omega
      exact (((s.o.other m _).other m _).other m _).other m _
     refine aS 4 fun K hK=>?_
     have r0:=f.o.bx.all;go_simp;refine hK.o _ _ (g.o _ (t.o _ _ _ _)) (fun r=>?_);clear hK K r0;(try go_frame);refine aO 5 1 r ?_;refine dN ?_;clear r g t;go_wp2;obtain ⟨M,T,S,hT⟩:=A.o.treX f.o.kx f.o.bx a5.o q am av ak nm cm nv cv ns cs;refine bodyPost_ret (v:=.tuple #[.agg #[iT q,.slice am nm cm,.slice av nv cv,.slice ak ns cs],iT (z - 1)]) ?_ rfl ⟨q,am,nm,cm,av,nv,cv,ak,ns,cs,M,T,S,z - 1,rfl,hT,((((f.o.bl.setCell (p:=⟨X,0,none⟩) f.o.top.1 _).setCell (p:=⟨X,1,none⟩) f.o.top.1 _).setCell (p:=⟨X,2,none⟩) f.o.top.1 _).setCell (p:=⟨X,3,none⟩) f.o.top.1 _)⟩;have e:=(((f.o.bx.set0 (iT q)).set1 (.slice am nm cm)).set2 (.slice av nv cv)).set3 (.slice ak ns cs);simp [results,Tryz.results44,go_sem,e.all]
 · have aV:¬(ns:Int) > 0:=by omega
   have F:=(Below.refl w3.heap.size w3).drew;have Z:Eq (wR w w3.drew R X a d cap N):=S3.o.below F;have E:Eq (e9 L.heap.size R w3.drew (.agg #[iT q,.slice am nm cm,.slice av nv cv,.slice ak ns cs])):=a0.o.below F;have s:Eq (ay w3.drew Y (iT q) (.slice am nm cm) (.slice av nv cv) (.slice ak ns cs)):=J.o.keep F;clear F S3 a0 J;go_upto_region 5 with fail
   clear x3 xz;refine eJ g s.o fun r=>?_
   generalize w3.drew=wd at r Z E s ⊢;refine aO 0 2 r ?_;refine aS 2 fun K hK=>?_
   go_simp;refine (cJ R N a d cap 20 _ Z.o.rd (by omega) (by omega)).mono ?_;rintro e C ⟨z,rfl,hz,B,n⟩;have H:Y≠R:=by have:=I.o;omega
   have aT:IntKind.i64.wrap (z - 1)=z - 1:=by have:=hz.1;have:=hz.2 (by omega);rw [GB];unfold wrap64;omega
   have f:Eq (wR w C R X a d cap (N+1)):=Z.o.read n B;have A:Eq (e9 L.heap.size R C (.agg #[iT q,.slice am nm cm,.slice av nv cv,.slice ak ns cs])):=E.o.read Z.o.rd a6.o.1 n;have y:=s.o.grownB n H;clear s;have s:Eq (ay C Y (iT q) (.slice am nm cm) (.slice av nv cv) (.slice ak ns cs)):=y;clear y hz B n Z E;go_wp2_with fail
   refine hK.o _ _ (g.o _ s.o) fun r=>?_
   (try go_frame);refine aO 3 1 r ?_;have t:Eq (∀u0 u1 u2 u3,ay ((((C.setCell ⟨X,0,none⟩ u0).setCell ⟨X,1,none⟩ u1).setCell ⟨X,2,none⟩ u2).setCell ⟨X,3,none⟩ u3) Y (iT q) (.slice am nm cm) (.slice av nv cv) (.slice ak ns cs)):=fun u0 u1 u2 u3=>by
    have m:X≠Y:=by have:=I.o;omega
    exact (((s.o.other m _).other m _).other m _).other m _
   refine aS 4 fun K hK=>?_
   have r0:=f.o.bx.all;go_simp;refine hK.o _ _ (g.o _ (t.o _ _ _ _)) (fun r=>?_);clear hK K r0;(try go_frame);refine aO 5 1 r ?_;refine dN ?_;clear r g t;go_wp2;obtain ⟨M,T,S,hT⟩:=A.o.treX f.o.kx f.o.bx a5.o q am av ak nm cm nv cv ns cs;refine bodyPost_ret (v:=.tuple #[.agg #[iT q,.slice am nm cm,.slice av nv cv,.slice ak ns cs],iT (z - 1)]) ?_ rfl ⟨q,am,nm,cm,av,nv,cv,ak,ns,cs,M,T,S,z - 1,rfl,hT,((((f.o.bl.setCell (p:=⟨X,0,none⟩) f.o.top.1 _).setCell (p:=⟨X,1,none⟩) f.o.top.1 _).setCell (p:=⟨X,2,none⟩) f.o.top.1 _).setCell (p:=⟨X,3,none⟩) f.o.top.1 _)⟩;have e:=(((f.o.bx.set0 (iT q)).set1 (.slice am nm cm)).set2 (.slice av nv cv)).set3 (.slice ak ns cs);simp [results,Tryz.results44,go_sem,e.all]
theorem Ae {hi hi':Nat} {d b:Nat→Nat} {es:Nat→Nat→Nat} (h:oy lo hi w am nm av nv ak ns M V S d b es) (e:X<lo) (hl:lo'≤lo) (hh:hi≤hi') (u0 u1 u2 u3:Value):oy lo' hi' ((((w.setCell ⟨X,0,none⟩ u0).setCell ⟨X,1,none⟩ u1).setCell ⟨X,2,none⟩ u2).setCell ⟨X,3,none⟩ u3) am nm av nv ak ns M V S d b es:=by
 rcases h with ⟨b1,b2,b3,h1,h2,h3,h4⟩ | h
 · exact .inl ⟨b1,b2,b3,h1,h2,h3,lL h4 e hl hh _ _ _ _⟩
 · exact .inr h
theorem rG (L:Nat)  (y:Int) (am:Option Addr) (nm cm b g cv:Nat) (ak:Option Addr) (t x:Nat) (a0:Option Addr) (n0 c0:Nat) (a1:Option Addr) (n1 c1:Nat) (a2:Option Addr) (n2 c2:Nat) (q2:Int) (A:List ac) (E B C:List af) (D:List Int) (w:World) (H:∀w',Bl w w'→Calls Tryz.prog 86 #[.agg #[iT y,.slice am nm cm,sO b g 3 cv,.slice ak t x]] w' fun e aq=>e=.returned (.tuple #[.agg #[iT y,.slice am nm cm,.slice a0 n0 c0,.slice a1 n1 c1,.slice a2 n2 c2,.slice ak t x],.bool true])∧Bl w' aq) (hC:∀w',Bl w w'→Calls Tryz.prog 103 #[.agg #[iT y,.slice am nm cm,.slice a0 n0 c0,.slice a1 n1 c1,.slice a2 n2 c2,.slice ak t x],.pointer (pT L)] w' (FP q2 A E B C D w')) (ho:wO A E B C D) :
 Calls Tryz.prog 61 #[.agg #[iT y,.slice am nm cm,sO b g 3 cv,.slice ak t x],.func (.func 103) #[] #[.pointer (pT L)]] w (pf q2 A [E,B,C] D true w):=by
 have ap:=az H;obtain ⟨X,hX⟩:=aF w.heap.size;obtain ⟨W,hW⟩:=aF ((w.alloc (.cells #[iT y,.slice am nm cm,sO b g 3 cv,.slice ak t x] 31)).alloc (.cells #[iT 0,nZ,nZ,nZ] 31));have kW:Bl w W:=by rw [hW];exact bZ.alloc (by simp) _
 have br:ay W (X+1) (iT 0) nZ nZ nZ:=by
  have:=ay.new (w.alloc (.cells #[iT y,.slice am nm cm,sO b g 3 cv,.slice ak t x] 31)) 31 (iT 0) nZ nZ nZ;rw [Gu] at this;rw [hW,hX];exact this
 have HX:Eq (X=w.heap.size):=hX;have K0:Eq (Bl w W):=kW;have aA:Eq (ay W (X+1) (iT 0) nZ nZ nZ):=br;have ao:=az hC;have HO:=az ho;clear kW br H hC ho;go_enter Tryz.func61,Tryz.ntmps61
 go_wp2_with fail
 rw [← hX,← hW];clear hX hW;refine (ap.o _ K0.o).mono ?_;rintro e w1 ⟨rfl,m⟩;obtain ⟨w2,s⟩:=aF (w1.alloc (.cells #[iT y,.slice am nm cm,.slice a0 n0 c0,.slice a1 n1 c1,.slice a2 n2 c2,.slice ak t x] 82));have k2:Bl w1 w2:=by rw [s];exact bZ
 have K2:Eq (Bl w w2):=(K0.o.trans (m.mono K0.o.size)).trans (k2.mono (Gq K0.o.size m.size));have au:Eq (ay w2 (X+1) (iT 0) nZ nZ nZ):=(aA.o.keep m).keep k2;clear m k2;go_wp2_with fail
 rw [← s];refine (ao.o _ K2.o).mono ?_;rintro e w3 ⟨Y,f,I,a5,a8,U,Q,a7,F,a22,a4,T,K,d,N,rfl,a6,n⟩;obtain ⟨w4,r⟩:=aF (w3.alloc (.cells #[iT q2,.slice Y f I,.slice a5 a8 U,.slice Q a7 F,.slice a22 a4 T,.slice K d N] 82));have k4:Bl w3 w4:=by rw [r];exact bZ
 have K4:Eq (Bl w w4):=(K2.o.trans (n.mono K2.o.size)).trans (k4.mono (Gq K2.o.size n.size));have O:Eq (ay w4 (X+1) (iT 0) nZ nZ nZ):=(au.o.keep n).keep k4;have ai:Eq (ow w4 Y f I a5 a8 U Q a7 F a22 a4 T K d N A E B C D):=a6.keep k4;clear n k4 a6 s;go_wp2_with fail
 rw [← r];clear r;refine (wH q2 _ _ _ _ _ _ _ _ _ _ _ _ _ _ _ A E B C D _ ai.o HO.o).mono ?_;rintro e w5 ⟨eb,Z,sb,gs,bs,es,rfl,_,J,u⟩;have K5:Eq (Bl w w5):=K4.o.trans (u.mono K4.o.size);have ar:Eq (fe w4.heap.size w5.heap.size w5 eb f Z 3 sb d A [E,B,C] D gs bs es):=J;have r5:=(O.o.keep u);have aw:Eq (ay w5 (X+1) (iT 0) nZ nZ nZ):=r5;have aj:Eq (X+1<w4.heap.size):=O.o.lt;have d0:=r5.all;clear J u r5;go_wp2;refine bodyPost_ret (v:=.tuple #[.agg #[iT q2,sL eb f f,sL Z 3 3,sL sb d d],.bool true]) ?_ rfl ⟨some ⟨eb,0,none⟩,f,some ⟨Z,0,none⟩,3,some ⟨sb,0,none⟩,d,gs,bs,es,rfl,.inl ⟨eb,Z,sb,rfl,rfl,rfl,?_⟩,?_⟩
 · have e:=(((aw.o.set0 (iT q2)).set1 (sL eb f f)).set2 (sL Z 3 3)).set3 (sL sb d d);simp [results,Tryz.results61,go_sem,e.all]
 · exact lL ar.o aj.o K4.o.size (by simp [World.setCell]) _ _ _ _
 · have hx:w.heap.size≤X+1:=by have:=HX.o;omega
   exact lD K5.o hx _ _ _ _
theorem rH (Q:Nat)  (m:Int) (am:Option Addr) (nm cm b y cv:Nat) (ak:Option Addr) (d r:Nat) (a0:Option Addr) (F c0:Nat) (a1:Option Addr) (I c1:Nat) (a2:Option Addr) (n2 c2:Nat) (M:List ac) (A B C:List af) (S:List Int) (w:World) (a9:ow w am nm cm a0 F c0 a1 I c1 a2 n2 c2 ak d r M A B C S) (K:∀w',Bl w w'→Calls Tryz.prog 86 #[.agg #[iT m,.slice am nm cm,sO b y 3 cv,.slice ak d r]] w' fun e aG=>e=.returned (.tuple #[.agg #[iT m,.slice am nm cm,.slice a0 F c0,.slice a1 I c1,.slice a2 n2 c2,.slice ak d r],.bool true])∧Bl w' aG) (hC:∀w',Bl w w'→Calls Tryz.prog 103 #[.agg #[iT m,.slice am nm cm,.slice a0 F c0,.slice a1 I c1,.slice a2 n2 c2,.slice ak d r],.pointer (pT Q)] w' (EO w')) (ho:wO M A B C S) :
 Calls Tryz.prog 61 #[.agg #[iT m,.slice am nm cm,sO b y 3 cv,.slice ak d r],.func (.func 103) #[] #[.pointer (pT Q)]] w (pf m M [A,B,C] S false w):=by
 have aE:=az K;obtain ⟨X,hX⟩:=aF w.heap.size;obtain ⟨W,hW⟩:=aF ((w.alloc (.cells #[iT m,.slice am nm cm,sO b y 3 cv,.slice ak d r] 31)).alloc (.cells #[iT 0,nZ,nZ,nZ] 31));have kW:Bl w W:=by rw [hW];exact bZ.alloc (by simp) _
 have br:ay W (X+1) (iT 0) nZ nZ nZ:=by
  have:=ay.new (w.alloc (.cells #[iT m,.slice am nm cm,sO b y 3 cv,.slice ak d r] 31)) 31 (iT 0) nZ nZ nZ;rw [Gu] at this;rw [hW,hX];exact this
 have HX:Eq (X=w.heap.size):=hX;have K0:Eq (Bl w W):=kW;have aN:Eq (ay W (X+1) (iT 0) nZ nZ nZ):=br;have aD:=az hC;have HO:=az ho;have aH:=az a9;clear kW br K hC ho a9;go_enter Tryz.func61,Tryz.ntmps61
 go_wp2_with fail
 rw [← hX,← hW];clear hX hW;refine (aE.o _ K0.o).mono ?_;rintro e w1 ⟨rfl,D⟩;obtain ⟨P1,E⟩:=aF w1.heap.size;obtain ⟨w2,u⟩:=aF (w1.alloc (.cells #[iT m,.slice am nm cm,.slice a0 F c0,.slice a1 I c1,.slice a2 n2 c2,.slice ak d r] 82));have k2:Bl w1 w2:=by rw [u];exact bZ
 have K2:Eq (Bl w w2):=(K0.o.trans (D.mono K0.o.size)).trans (k2.mono (Gq K0.o.size D.size));have ab:Eq (ay w2 (X+1) (iT 0) nZ nZ nZ):=(aN.o.keep D).keep k2;have aJ:Eq (b6 w2 P1 (iT m) (.slice am nm cm) (.slice a0 F c0) (.slice a1 I c1) (.slice a2 n2 c2) (.slice ak d r)):=by rw [u,E];exact b6.new _ _ _ _ _ _ _ _
 clear D k2;go_wp2_with fail
 rw [← u];try rw [← E]
 clear E u;refine (aD.o _ K2.o).mono ?_;rintro e w3 ⟨q2,a7,ad,L,ah,al,a6,Y,aj,J,a22,ag,Z,O,a8,T,rfl,s⟩;have a3:Eq (b6 w3 P1 (iT m) (.slice am nm cm) (.slice a0 F c0) (.slice a1 I c1) (.slice a2 n2 c2) (.slice ak d r)):=aJ.o.keep s;obtain ⟨P2,n⟩:=aF w3.heap.size;obtain ⟨wn,x⟩:=aF (w3.alloc (.cells #[iT q2,.slice a7 ad L,.slice ah al a6,.slice Y aj J,.slice a22 ag Z,.slice O a8 T] 82));have kn:Bl w3 wn:=by rw [x];exact bZ
 have K3:Eq (Bl w w3):=K2.o.trans (s.mono K2.o.size);have Kn:Eq (Bl w wn):=K3.o.trans (kn.mono K3.o.size);have a4:=a3.o.keep kn;have ai:b6 wn P2 (iT q2) (.slice a7 ad L) (.slice ah al a6) (.slice Y aj J) (.slice a22 ag Z) (.slice O a8 T):=by rw [x,n];exact b6.new _ _ _ _ _ _ _ _
 have g:w.heap.size≤P2:=by rw [n];exact K3.o.size
 have rn:=(ab.o.keep s).keep kn;have f:X+1≠P2:=by rw [n];have:=(ab.o.keep s).lt;omega
 obtain ⟨w4,t⟩:=aF ((((((wn.setCell ⟨P2,0,none⟩ (iT m)).setCell ⟨P2,1,none⟩ (.slice am nm cm)).setCell ⟨P2,2,none⟩ (.slice a0 F c0)).setCell ⟨P2,3,none⟩ (.slice a1 I c1)).setCell ⟨P2,4,none⟩ (.slice a2 n2 c2)).setCell ⟨P2,5,none⟩ (.slice ak d r));have K4:Eq (Bl w w4):=by
  rw [t];exact ((lD Kn.o g _ _ _ _).setCell (p:=⟨P2,4,none⟩) g _).setCell (p:=⟨P2,5,none⟩) g _
 have U:Eq (ay w4 (X+1) (iT 0) nZ nZ nZ):=by
  rw [t];exact (((((rn.other (b':=P2) (o:=0) f.symm _).other (b':=P2) (o:=1) f.symm _).other (b':=P2) (o:=2) f.symm _).other (b':=P2) (o:=3) f.symm _).other (b':=P2) (o:=4) f.symm _).other (b':=P2) (o:=5) f.symm _
 have x0:=a4.all;have y0:=ai.all;have aU:P1≠P2:=by rw [n];have:=a3.o.lt;omega
 clear s kn rn a4 ai f g;go_upto_region 6 with fail
 rw [← x];try rw [← n]
 clear x n;go_wp2_with fail
 rw [← t];clear t x0 y0;refine (wH m _ _ _ _ _ _ _ _ _ _ _ _ _ _ _ M A B C S _ (aH.o.keep K4.o) HO.o).mono ?_;rintro e w5 ⟨eb,vb,sb,gs,bs,es,rfl,_,N,H⟩;have K5:Eq (Bl w w5):=K4.o.trans (H.mono K4.o.size);have aI:Eq (fe w4.heap.size w5.heap.size w5 eb nm vb 3 sb d M [A,B,C] S gs bs es):=N;have r5:=(U.o.keep H);have aL:Eq (ay w5 (X+1) (iT 0) nZ nZ nZ):=r5;have aC:Eq (X+1<w4.heap.size):=U.o.lt;have d0:=r5.all;clear N H r5;go_wp2;refine bodyPost_ret (v:=.tuple #[.agg #[iT m,sL eb nm nm,sL vb 3 3,sL sb d d],.bool false]) ?_ rfl ⟨some ⟨eb,0,none⟩,nm,some ⟨vb,0,none⟩,3,some ⟨sb,0,none⟩,d,gs,bs,es,rfl,.inl ⟨eb,vb,sb,rfl,rfl,rfl,?_⟩,?_⟩
 · have e:=(((aL.o.set0 (iT m)).set1 (sL eb nm nm)).set2 (sL vb 3 3)).set3 (sL sb d d);simp [results,Tryz.results61,go_sem,e.all]
 · exact lL aI.o aC.o K4.o.size (by simp [World.setCell]) _ _ _ _
 · have hx:w.heap.size≤X+1:=by have:=HX.o;omega
   exact lD K5.o hx _ _ _ _
end Go.Proofs.YtpobkmjicbobdaaGreat
