/- Walks. -/
import Derived.Test.YtpobkmjicbobdaaGreatBD29
namespace Go.Proofs.YtpobkmjicbobdaaGreat
set_option maxRecDepth 100000
set_option maxHeartbeats 40000000
open Go.RowKit
variable {A B C:List af} {G P P' R X Z b base c c1 c3 cap cm cs cv d0 d1 d2 g0 g1 g3 h1 h2 len n0 n1 n2 nm ns nv:Nat} {M:List ac} {S:List Int} {V:List (List af)} {a ak am av:Option Addr} {q:Int} {w wi wj:World}
structure wS (base b:Nat) (w:World) (g1 nm c1 G c g3 ns c3 g0 n0 d0 h1 n1 d1 h2 n2 d2:Nat) (M:List ac) (A B C:List af) (S:List Int):Prop where
 mem:ah w base g1 nm c1 M
 row:w.ownsRow base 61 1 (sL G 3 c) 3 [sL g0 n0 d0,sL h1 n1 d1,sL h2 n2 d2]
 rA:bj b w g0 n0 d0 A
 rB:bj b w h1 n1 d1 B
 rC:bj b w h2 n2 d2 C
 sn:w.ownsRow base 3 1 (sL g3 ns c3) ns (S.map iT)
 slen:S.length=ns
 swf:∀z ∈ S,(Lit.int .i64 z).wf=true
 far:g1<b
 top:base≤b∧b≤w.heap.size
theorem wS.kp {w':World} (h:wS base b w g1 nm c1 G c g3 ns c3 g0 n0 d0 h1 n1 d1 h2 n2 d2 M A B C S) (hR:R<base) (k:jD R w w'):wS base b w' g1 nm c1 G c g3 ns c3 g0 n0 d0 h1 n1 d1 h2 n2 d2 M A B C S :=
 have hb:=E' hR h.top.1
 ⟨h.mem.kp hR k,jL h.row (by decide) hR k,h.rA.kp hb k,h.rB.kp hb k,h.rC.kp hb k,jL h.sn (by decide) hR k,h.slen,h.swf,h.far,h.top.1,Gq h.top.2 k.1⟩
theorem wS.rdT (h:wS base b w g1 nm c1 G c g3 ns c3 g0 n0 d0 h1 n1 d1 h2 n2 d2 M A B C S) (hR:R<base):DQ R w (pT g1) nm c1 (pT G) 3 c (pT g3) ns c3 M [A,B,C] S :=
 have hb:=E' hR h.top.1
 jN h.mem h.row (h.rA.lvQ hb) (h.rB.lvQ hb) (h.rC.lvQ hb) h.sn h.slen h.swf hR
theorem wS.kinds (h:wS base b w g1 nm c1 G c g3 ns c3 g0 n0 d0 h1 n1 d1 h2 n2 d2 M A B C S):(∃sz,aq w g1 50 sz)∧(∃sz,aq w G 61 sz)∧(∃sz,aq w g3 3 sz)∧(∃sz,aq w g0 63 sz)∧(∃sz,aq w h1 63 sz):=by
 obtain ⟨_,_,xs,h3,_⟩:=h.rA;obtain ⟨_,_,d,h4,_⟩:=h.rB;exact ⟨aP h.mem.owns,aP h.row,aP h.sn,aP h3,aP h4⟩
structure mV (R:Nat) (a:Option Addr) (len cap P:Nat) (w wi:World) (X Z b:Nat) (q:Int) (g1 nm c1 G c g3 ns c3 g0 n0 d0 h1 n1 d1 h2 n2 d2:Nat) (M:List ac) (A B C:List af) (S:List Int):Prop where
 rd:bf wi R a len cap P
 bx:ay wi X (iT q) (sL g1 nm c1) (sL G 3 c) (sL g3 ns c3)
 br:ay wi Z (iT 0) nZ nZ nZ
 kx:aq wi X 31 4∧aq wi Z 31 4
 bt:wS w.heap.size b wi g1 nm c1 G c g3 ns c3 g0 n0 d0 h1 n1 d1 h2 n2 d2 M A B C S
 gr:w.grownBy wi (some R)
 top:w.heap.size≤X∧w.heap.size≤Z∧X≠Z∧R<w.heap.size∧tC a len R
theorem mV.below (h:mV R a len cap P w wi X Z b q g1 nm c1 G c g3 ns c3 g0 n0 d0 h1 n1 d1 h2 n2 d2 M A B C S) (hb:Bl wi wj):mV R a len cap P w wj X Z b q g1 nm c1 G c g3 ns c3 g0 n0 d0 h1 n1 d1 h2 n2 d2 M A B C S :=
 ⟨h.rd.below hb,h.bx.keep hb,h.br.keep hb,⟨h.kx.1.below hb,h.kx.2.below hb⟩,h.bt.kp h.top.2.2.2.1 (jD.below hb),ae h.gr (aJ hb),h.top⟩
theorem mV.read (h:mV R a len cap P w wi X Z b q g1 nm c1 G c g3 ns c3 g0 n0 d0 h1 n1 d1 h2 n2 d2 M A B C S) (hg:wi.grownBy wj (some R)) (hr:bf wj R a len cap P'):mV R a len cap P' w wj X Z b q g1 nm c1 G c g3 ns c3 g0 n0 d0 h1 n1 d1 h2 n2 d2 M A B C S :=
 have e1:X≠R:=by have:=h.top;omega
 have e2:Z≠R:=by have:=h.top;omega
 ⟨hr,h.bx.grownB hg e1,h.br.grownB hg e2,⟨h.kx.1.grown hg e1,h.kx.2.grown hg e2⟩,h.bt.kp h.top.2.2.2.1 (jD.grown hg),ae h.gr hg,h.top⟩
theorem mV.wrote (h:mV R a len cap P w wi X Z b q g1 nm c1 G c g3 ns c3 g0 n0 d0 h1 n1 d1 h2 n2 d2 M A B C S) {g T sz:Nat} (hg:wi.grownBy wj (some g)) (d:aq wi g T sz) (f:T≠31) (hl:w.heap.size≤g) :
 bf wj R a len cap P∧ay wj X (iT q) (sL g1 nm c1) (sL G 3 c) (sL g3 ns c3)∧ay wj Z (iT 0) nZ nZ nZ∧(aq wj X 31 4∧aq wj Z 31 4)∧w.grownBy wj (some R):=by
 have m:=h.top;have e1:X≠g:=fun e=>f (d.kind (e ▸ h.kx.1))
 have e2:Z≠g:=fun e=>f (d.kind (e ▸ h.kx.2))
 exact ⟨h.rd.grown hg m.2.2.2.2 (fun k e=>by cases e;omega),h.bx.grownB hg e1,h.br.grownB hg e2,⟨h.kx.1.grown hg e1,h.kx.2.grown hg e2⟩,aH h.gr hl hg⟩
def F7 (lo R:Nat) (a:Option Addr) (len cap P:Nat) (w wz:World) (X Z:Nat):Prop:=∃P' q am nm cm av nv cv ak ns cs,bf wz R a len cap P'∧P'≤P+1000∧ay wz X (iT q) (.slice am nm cm) (.slice av nv cv) (.slice ak ns cs)∧ay wz Z (iT 0) nZ nZ nZ∧aq wz Z 31 4∧e9 lo R wz (.agg #[iT q,.slice am nm cm,.slice av nv cv,.slice ak ns cs])∧w.grownBy wz (some R)∧(w.heap.size≤Z∧R<w.heap.size∧tC a len R)∧rk (.agg #[iT q,.slice am nm cm,.slice av nv cv,.slice ak ns cs])
theorem pt {lo:Nat} {d:World} (n:bf d R a len cap P') (r:P'≤P+1000) (e:ay d X (iT q) (.slice am nm cm) (.slice av nv cv) (.slice ak ns cs)) (o:ay d Z (iT 0) nZ nZ nZ) (hk:aq d Z 31 4) (hq:(Lit.int .i64 q).wf=true) (s:DQ R d am nm cm av nv cv ak ns cs M V S) (f:FK M V) (m:w.grownBy d (some R)) (t:w.heap.size≤Z∧R<w.heap.size∧tC a len R) (hs:(∃g,am=some ⟨g,0,none⟩)∧∃g,ak=some ⟨g,0,none⟩:=by exact ⟨⟨_,rfl⟩,⟨_,rfl⟩⟩) (hns:ns≤100:=by omega):F7 lo R a len cap P w d X Z:=by
 obtain ⟨⟨_,rfl⟩,⟨_,rfl⟩⟩:=hs;exact ⟨P',q,_,nm,cm,av,nv,cv,_,ns,cs,n,r,e,o,hk,.inr ⟨q,_,nm,cm,av,nv,cv,_,ns,cs,M,V,S,rfl,hq,s,hns,f⟩,m,t,⟨q,_,_,_,_,_,_,_,_,_,rfl⟩⟩
theorem ps {lo:Nat} (o:Nat) (u:Value) (x:bf wi R a len cap P') (D:P'≤P+1000) (s:ay (wi.setCell ⟨X,o,none⟩ u) X (iT q) (.slice am nm cm) (.slice av nv cv) (.slice ak ns cs)) (y:ay wi Z (iT 0) nZ nZ nZ) (hk:aq wi X 31 4∧aq wi Z 31 4) (hq:(Lit.int .i64 q).wf=true) (E:DQ R wi am nm cm av nv cv ak ns cs M V S) (n:FK M V) (r:w.grownBy wi (some R)) (m:w.heap.size≤X∧w.heap.size≤Z∧X≠Z∧R<w.heap.size∧tC a len R) (hs:(∃g,am=some ⟨g,0,none⟩)∧∃g,ak=some ⟨g,0,none⟩:=by exact ⟨⟨_,rfl⟩,⟨_,rfl⟩⟩) (hns:ns≤100:=by omega):F7 lo R a len cap P w (wi.setCell ⟨X,o,none⟩ u) X Z:=by
 have t:X≠R:=by omega
 have f:∀b d,a=some ⟨b,d,none⟩→0<len→b≠X:=fun b d e hl=>by
  rcases m.2.2.2.2 with h0 | h0
  · omega
  · have:=h0 b d e;omega
 exact pt (x.other t f _ _) D s (y.other m.2.2.1 _) (hk.2.setCell _) hq (E.kp (jD.set hk.1 o u)) n (aH r m.1 (dg _ _ _ _)) ⟨m.2.1,m.2.2.2⟩ hs hns
def F8 (lo R:Nat) (a:Option Addr) (len cap P d:Nat) (u:Value) (w:World) (e:Ending) (w':World):Prop:=∃v P',e=.returned v∧e9 lo R w' v∧bf w' R a len cap P'∧P'≤P+d∧w.grownBy w' (some R)∧(rk u→rk v)
theorem FF (lo:Nat) (v:Value) (w:World) (h:dl lo w v):Calls Tryz.prog 57 #[v] w fun e w'=>∃(q:Int) (b g1 nm c1 G c g3 ns c3 g0 d0 h1 d1 h2 d2:Nat) (M:List ac) (A B C:List af) (S:List Int),e=.returned (.agg #[iT q,sL g1 nm c1,sL G 3 c,sL g3 ns c3])∧wS w.heap.size b w' g1 nm c1 G c g3 ns c3 g0 A.length d0 h1 B.length d1 h2 C.length d2 M A B C S∧(aT q M [A,B,C] S=true∧mX M A B C)∧Bl w w'∧h1≠g0∧h1≠h2:=by
 obtain ⟨q,am,nm,cm,G,c,ak,ns,cs,g,o,e1,n1,d1,e2,n2,d2,M,A,B,C,S,rfl,r,d⟩:=h;have hM:=(aV d.1).2.2.1;have hS:=mt d.1;have L:=r.mem.len;have hsl:=r.sn.length;refine (sy 0 q am _ ak nm cm 3 c ns cs M [A,B,C] S w r.treeIn (by omega) (by omega) (by omega) (pl d.1)).mono ?_;rintro e w' ⟨g1,c1,H,c',g3,c3,rfl,hC,hb,b,f1,f2,K⟩;obtain ⟨_,xs,u,n,E⟩:=K;obtain ⟨g,o,a1,a2⟩:=n 0 A rfl;obtain ⟨t,F,b1,b2⟩:=n 1 B rfl;obtain ⟨s,D,f,J⟩:=n 2 C rfl;have hx:xs=[sL g A.length o,sL t B.length F,sL s C.length D]:=by
  have hl:=u.1;match xs,hl,a1,b1,f with
  | [x,y,z],_,a1,b1,f=>simp at a1 b1 f;rw [a1,b1,f]
 subst hx;have m:b≤w'.heap.size:=by obtain ⟨_,_,N,I,_⟩:=a2;have:=I.lt g rfl;omega
 exact ⟨q,b,g1,nm,c1,H,c',g3,ns,c3,g,o,t,F,s,D,M,A,B,C,S,rfl,⟨hC.mem,ew u f1,a2,b2,J,hC.sn,hC.slen,hC.swf,f2,f1,m⟩,d,hb,(E 0 1 _ _ _ _ _ _ (by omega) rfl rfl).symm,E 1 2 _ _ _ _ _ _ (by omega) rfl rfl⟩
theorem Ej {n s t:Nat} {r o:World} {xs:List Value} (q1:B.length=n) (q2:∀p ∈ B,(Lit.int .i64 p.2).wf=true) (q3:r.ownsRow b 63 2 (sL h1 n d1) n xs) (q4:∀(i:Nat) (p:af),B[i]?=some p→∃e d,xs[i*2]?=some (sL e p.1.length d)∧xs[i*2+1]?=some (iT p.2)∧ah r b e p.1.length d p.1)
 (hE:∀{e d:Nat} {L:List ac},ah r b e L.length d L→ah o b e L.length d L) (ho:o.ownsRow b 63 2 (sL s (n+1) t) (n+1) (xs++[nZ,iT 0])) (hR:R<b):Br R o (pT s) (n+1) t (B++[([],0)]):=fun w' k=>by
 have h3:=jL ho (by decide) hR k
 have u:=q3.1
 have g:=cy h3
 refine ⟨by rw [Gj,q1];rfl,g.1,g.2,(fun e=>by cases e),?_,?_⟩
 · rintro x e _
   cases e
   exact ⟨(h3.lt s rfl).2,rfl,Gl _⟩
 · rintro x e i hi
   cases e
   rw [Gj,q1] at hi
   simp only [GR,Hp] at hi
   by_cases y:i<n
   · have f:i<B.length:=by omega
     obtain ⟨e0,d0,a1,a2,a3⟩:=q4 i _ (j' f)
     have hE:=hE a3
     rw [List.getElem_append_left f]
     refine ⟨q2 _ (GQ f),_,_,_,?_,?_,(hE.kp hR k).entsAt,fun _ _ _=>Gl _⟩
     · simp only [Gp]
       exact (h3.cellAt _ (by omega)).trans ((Gt (by omega)).trans a1)
     · simp only [Gp]
       exact (h3.cellAt _ (by omega)).trans ((Gt (by omega)).trans a2)
   · have m:i=B.length:=by omega
     subst m
     rw [List.getElem_append_right (Gg _)]
     simp only [Hn,List.getElem_cons_zero]
     refine ⟨by decide,none,0,0,?_,?_,AV _ _ _⟩
     · simp only [Gp]
       refine (h3.cellAt _ (by omega)).trans ?_
       rw [Gm (by omega),show B.length*2 - xs.length=0 by omega]
       rfl
     · simp only [Gp]
       refine (h3.cellAt _ (by omega)).trans ?_
       rw [Gm (by omega),show B.length*2+1 - xs.length=1 by omega]
       rfl
theorem wS.swap (h:wS base b w g1 nm c1 G c g3 ns c3 g0 n0 d0 h1 n1 d1 h2 n2 d2 M A B C S):wS base b ((w.setCell ⟨G,0,none⟩ (sL h2 n2 d2)).setCell ⟨G,2,none⟩ (sL g0 n0 d0)) g1 nm c1 G c g3 ns c3 h2 n2 d2 h1 n1 d1 g0 n0 d0 M C B A S:=by
 obtain ⟨⟨_,k1⟩,⟨_,t⟩,⟨_,k3⟩,_⟩:=h.kinds;have f:=dg w G 0 (sL h2 n2 d2);have r:=t.setCell (b:=G) (o:=0) (sL h2 n2 d2);have m:=dg (w.setCell ⟨G,0,none⟩ (sL h2 n2 d2)) G 2 (sL g0 n0 d0);have s:∀{g n d:Nat} {Z:List af},bj b w g n d Z→bj b ((w.setCell ⟨G,0,none⟩ (sL h2 n2 d2)).setCell ⟨G,2,none⟩ (sL g0 n0 d0)) g n d Z:=fun u=>(u.grown t (by decide) (by decide) f).grown r (by decide) (by decide) m
 have e:=(h.row.stored 0 (sL h2 n2 d2)).1;have r2:=(e.stored 2 (sL g0 n0 d0)).1;have hm:=dP h.mem h.row (by decide) f;have hs:=cQ h.sn h.row (by decide) f;exact ⟨dP hm e (by decide) m,r2,s h.rC,s h.rB,s h.rA,cQ hs e (by decide) m,h.slen,h.swf,h.far,h.top.1,by have:=h.top.2;simpa [World.setCell] using this⟩
theorem wS.putL {f e m:Nat} {D:List af} (h:wS base b w g1 nm c1 G c g3 ns c3 g0 n0 d0 h1 n1 d1 h2 n2 d2 M A B C S) (hp:bj b w f e m D) (k:Nat) (hk:k<3) (r:n0≤e):∃a0 F H a1 m1 k1 a2 m2 k2 E y x,wS base b (w.setCell ⟨G,k,none⟩ (sL f e m)) g1 nm c1 G c g3 ns c3 a0 F H a1 m1 k1 a2 m2 k2 M E y x S∧F≤e∧(mX M A B C→oz D→mX M E y x):=by
 obtain ⟨_,⟨_,J⟩,_⟩:=h.kinds;have u:=dg w G k (sL f e m);have o:∀{g n d:Nat} {Z:List af},bj b w g n d Z→bj b (w.setCell ⟨G,k,none⟩ (sL f e m)) g n d Z:=fun I=>I.grown J (by decide) (by decide) u
 have s:=(h.row.stored k (sL f e m)).1;have hm:=dP h.mem h.row (by decide) u;have hs:=cQ h.sn h.row (by decide) u;have t:base≤b∧b≤(w.setCell ⟨G,k,none⟩ (sL f e m)).heap.size:=⟨h.top.1,by have:=h.top.2;simpa [World.setCell] using this⟩;rcases (by omega:k=0∨k=1∨k=2) with rfl | rfl | rfl
 · exact ⟨f,e,m,h1,n1,d1,h2,n2,d2,D,B,C,⟨hm,s,o hp,o h.rB,o h.rC,hs,h.slen,h.swf,h.far,t⟩,Gg _,fun k d=>⟨k.1,d,k.2.2⟩⟩
 · exact ⟨g0,n0,d0,f,e,m,h2,n2,d2,A,D,C,⟨hm,s,o h.rA,o hp,o h.rC,hs,h.slen,h.swf,h.far,t⟩,r,fun k d=>⟨k.1,k.2.1,d,k.2.2.2⟩⟩
 · exact ⟨g0,n0,d0,h1,n1,d1,f,e,m,A,B,D,⟨hm,s,o h.rA,o h.rB,o hp,hs,h.slen,h.swf,h.far,t⟩,r,fun k d=>⟨k.1,k.2.1,k.2.2.1,d⟩⟩
theorem x7 (R P lo:Nat) (a:Option Addr) (len cap:Nat) (v:Value) (w:World) (h:bf w R a len cap P) (aW:tC a len R) (hP:P<68000) (hR:R<lo) (bz:lo≤w.heap.size) (hg:dl lo w v) :
 Calls Tryz.prog 76 #[.pointer (pT R),v] w (F8 lo R a len cap P 1000 v w):=by
 obtain ⟨i0,hi,cM,cT,cB⟩:=info_parts Tryz.infoEnt;obtain ⟨j0,hj,cS,cI,cN⟩:=info_parts Tryz.infoInt;obtain ⟨l0,hl,c4,bQ,bW⟩:=info_parts Tryz.infoRun;obtain ⟨q,am,nm,cm,av,nv,cv,ak,ns,cs,rfl⟩:=hg.val;obtain ⟨X,hX⟩:=aF w.heap.size;obtain ⟨W,hW⟩:=aF ((w.alloc (.cells #[iT q,.slice am nm cm,.slice av nv cv,.slice ak ns cs] 31)).alloc (.cells #[iT 0,nZ,nZ,nZ] 31));have kW:Bl w W:=by rw [hW];exact bZ.alloc (by simp) _
 have bx:ay W X (iT q) (.slice am nm cm) (.slice av nv cv) (.slice ak ns cs):=by rw [hW,hX];exact (ay.new _ _ _ _ _ _).alloc _
 have br:ay W (X+1) (iT 0) nZ nZ nZ∧aq W (X+1) 31 4:=by
  have:=ay.new (w.alloc (.cells #[iT q,.slice am nm cm,.slice av nv cv,.slice ak ns cs] 31)) 31 (iT 0) nZ nZ nZ;rw [Gu] at this;rw [hW,hX];have h2:=cU (w.alloc (.cells #[iT q,.slice am nm cm,.slice av nv cv,.slice ak ns cs] 31)) #[iT 0,nZ,nZ,nZ] 31;rw [Gu] at h2;exact ⟨this,h2⟩
 have kX:aq W X 31 4:=by rw [hW,hX];exact (cU w #[iT q,.slice am nm cm,.slice av nv cv,.slice ak ns cs] 31).below bZ
 have S0:Eq (ph lo R a len cap P w W X (X+1) q am nm cm av nv cv ak ns cs):=⟨h.below kW,bx,br.1,⟨kX,br.2⟩,hg.below kW,iu.of kW,bz,Nat.le_of_eq hX.symm,hR,aW,by omega,by omega⟩;have bH:Eq (w.grownBy W (some R)):=aJ kW;have cf:Eq (nv=3):=by obtain ⟨q',dt,dq,dp,G,c,dB,dQ,dn,gA,dA,e1,n1,d1,e2,n2,d2,M,A,B,C,S,e,_,_⟩:=hg;cases e;rfl
 clear h aW bz hg kW bx br kX;go_enter Tryz.func76,Tryz.ntmps76
 go_upto_region 1 with fail
 rw [← hX,← hW];clear hX hW;go_wp2_with fail
 refine (cJ R P a len cap 70 _ S0.o.rd (by omega) (by omega)).mono ?_;rintro e w1 ⟨k,rfl,hk,co,bb⟩;have e4:0≤k∧k<70:=⟨hk.1,hk.2 (by omega)⟩;have S1:Eq (ph lo R a len cap (P+1) w w1 X (X+1) q am nm cm av nv cv ak ns cs):=S0.o.read bb co;have bh:Eq (w.grownBy w1 (some R)):=ae bH.o bb;clear S0 bb co hk bH;have x0:=S1.o.bx.all;by_cases dU:k > 6
 · have r0:=S1.o.br.all;go_wp2;refine bodyPost_ret (v:=.agg #[iT q,.slice am nm cm,.slice av nv cv,.slice ak ns cs]) ?_ rfl ⟨_,P+1,rfl,.inl (S1.o.good.four S1.o.kx.2 S1.o.br),?_,by omega,?_,id⟩
   · have e:=(((S1.o.br.set0 (iT q)).set1 (.slice am nm cm)).set2 (.slice av nv cv)).set3 (.slice ak ns cs);simp [results,Tryz.results76,go_sem,e.all]
   · have ht:=S1.o.top;have Q:X+1≠R:=by omega
     have r:∀b a3,a=some ⟨b,a3,none⟩→0<len→b≠X+1:=fun b a3 e hl=>by
      rcases ht.2.2.2.1 with h0 | h0
      · omega
      · have:=h0 b a3 e;omega
     exact (((S1.o.rd.other Q r _ _).other Q r _ _).other Q r _ _).other Q r _ _
   · have I:w.heap.size≤X+1:=by have:=S1.o.top;omega
     exact aH (aH (aH (aH bh.o I (dg _ _ _ _)) I (dg _ _ _ _)) I (dg _ _ _ _)) I (dg _ _ _ _)
 have dC:decide (6<k)=false:=decide_eq_false (by omega);have bD:nv=3:=cf.o;subst bD;go_wp2_with fail
 clear x0;refine (FF lo _ w1 S1.o.good).mono ?_;rintro e w2 ⟨q,b,g1,nm,c1,G,c,g3,ns,c3,g0,d0,h1,d1,h2,d2,M,A,B,C,S,rfl,bE,b8,bc,bu⟩;have S2:Eq (ph lo R a len cap (P+1) w w2 X (X+1) _ am _ cm av 3 cv ak _ cs):=S1.o.below bc;have c7:Eq (w.grownBy w2 (some R)):=ae bh.o (aJ bc);have bO:Eq (wS w1.heap.size b w2 g1 nm c1 G c g3 ns c3 g0 A.length d0 h1 B.length d1 h2 C.length d2 M A B C S):=bE;have aG:Eq (aT q M [A,B,C] S=true):=b8.1;have O:Eq (mX M A B C):=b8.2;have bK:Eq (h1≠g0∧h1≠h2):=bu;have F:Eq (w.heap.size≤w1.heap.size∧R<w.heap.size):=⟨S1.o.low.size,by have:=S1.o.top;omega⟩;have x0:=S2.o.bx.all;clear S1 bh bE b8 bc cf bu;go_upto_region 5 with fail
 obtain ⟨w3,bd⟩:=aF ((((w2.setCell ⟨X,0,none⟩ (iT q)).setCell ⟨X,1,none⟩ (sL g1 nm c1)).setCell ⟨X,2,none⟩ (sL G 3 c)).setCell ⟨X,3,none⟩ (sL g3 ns c3));have J:Eq (mV R a len cap (P+1) w w3 X (X+1) b q g1 nm c1 G c g3 ns c3 g0 A.length d0 h1 B.length d1 h2 C.length d2 M A B C S):=by
  have ht:=S2.o.top;have Q:X≠R:=by omega
  have r:∀b a3,a=some ⟨b,a3,none⟩→0<len→b≠X:=fun b a3 e hl=>by
   rcases ht.2.2.2.1 with h0 | h0
   · omega
   · have:=h0 b a3 e;omega
  have k1:=S2.o.kx.1;have k2:=S2.o.kx.2;have hr:=S2.o.br;have I:w.heap.size≤X:=ht.2.1;rw [bd];have hB:=bO.o.kp (R:=R) (by have:=F.o;omega) (jD.four k1 (iT q) (sL g1 nm c1) (sL G 3 c) (sL g3 ns c3));exact ⟨(((S2.o.rd.other Q r _ _).other Q r _ _).other Q r _ _).other Q r _ _,(((S2.o.bx.set0 _).set1 _).set2 _).set3 _,(((hr.other (by omega) _).other (by omega) _).other (by omega) _).other (by omega) _,⟨(((k1.setCell _).setCell _).setCell _).setCell _,(((k2.setCell _).setCell _).setCell _).setCell _⟩,
   ⟨hB.mem.mono F.o.1,ew hB.row F.o.1,hB.rA,hB.rB,hB.rC,ew hB.sn F.o.1,hB.slen,hB.swf,hB.far,Gq F.o.1 hB.top.1,hB.top.2⟩,aH (aH (aH (aH c7.o I (dg _ _ _ _)) I (dg _ _ _ _)) I (dg _ _ _ _)) I (dg _ _ _ _),ht.2.1,by omega,by omega,F.o.2,ht.2.2.2.1⟩
 rw [← bd];clear bd x0 S2 c7 bO;have HQ:Eq (0≤q∧q≤100000∧M.length≤60∧S.length≤4∧A.length≤4∧B.length≤8):=by
  have h1:=aV aG.o;have h2:=mt aG.o;have h3:=(dR.1 aG.o).2.2.2.2.2.2.1;have h4:=(dh.1 h3.1).1;have h5:=(dh.1 h3.2.1).1;exact ⟨by omega,by omega,h1.2.2.1,h2,by omega,by omega⟩
 have da:ns≤99:=by have h1:=HQ.o;have h2:=J.o.bt.slen;omega
 clear aG;go_upto_block 0 with fail
 go_cut [21] (fun _ wz=>F7 lo R a len cap P w wz X (X+1))
 case first =>
  by_cases k0:k=0
  · subst k0;have x0:=J.o.bx.all;have be:IntKind.i64.wrap (q - 1)=q - 1:=by have:=HQ.o;rw [GB];unfold wrap64;omega
    go_wp2_with fail
    clear x0 be;have kc:Bl w3 (w3.alloc (.cells ((([0,-1,100001,q - 1]:List Int).map iT).toArray) 3)):=bZ;refine (fc Wf R (P+1) a len cap w3.heap.size 0 4 4 _ (J.o.rd.below kc) (by omega) (by omega) (by omega) (by have:=J.o.rd.lt;omega) (by simp) (eQ w3 3 [0,-1,100001,q - 1] Wf ?_)).mono ?_
    · intro s hs;have:=HQ.o;simp only [Gz,GZ,or_false] at hs;rcases hs with rfl | rfl | rfl | rfl <;> exact G5 (by omega)
    rintro e w4 ⟨z,rfl,hz,a8,a9⟩;have n:Eq (mV R a len cap (P+1+1) w w4 X (X+1) b q g1 nm c1 G c g3 ns c3 g0 A.length d0 h1 B.length d1 h2 C.length d2 M A B C S):=(J.o.below kc).read a9 a8;clear kc a8 a9 J;have x0:=n.o.bx.all;go_wp2;go_meet
    exact ps 0 _ n.o.rd (by omega) (n.o.bx.set0 _) n.o.br n.o.kx hz (n.o.bt.rdT F.o.2) O.o.all n.o.gr n.o.top
  have eb:(k == 0)=false:=by simpa using k0
  by_cases k1:k=1
  · subst k1;have g:Eq (∀w',ay w' X (iT q) (sL g1 nm c1) (sL G 3 c) (sL g3 ns c3)→(fun w':World=>w'.cell? ⟨X,0,none⟩=some (iT q)∧w'.cell? ⟨X,1,none⟩=some (sL g1 nm c1)∧w'.cell? ⟨X,2,none⟩=some (sL G 3 c)∧w'.cell? ⟨X,3,none⟩=some (sL g3 ns c3)∧X<w'.heap.size) w'):=fun w' b=>⟨b.c0,b.c1,b.c2,b.c3,b.lt⟩
    have n:Eq (mV R a len cap (P+1) w w3.drew X (X+1) b q g1 nm c1 G c g3 ns c3 g0 A.length d0 h1 B.length d1 h2 C.length d2 M A B C S):=J.o.below (Below.refl _ w3).drew;clear J;go_upto_region 10 with fail
    refine Fi 7 g n.o.bx fun D=>?_
    generalize w3.drew=wd at D n ⊢;refine uG 0 3 D ?_;refine rO 3 fun K hK=>?_
    go_simp;refine (iA R (P+1) a len cap 1 _ n.o.rd (by omega) (by decide)).mono ?_;rintro e w4 ⟨kk,tt,qq,d,nn,P2,rfl,bP,a8,e7,a9⟩;have S5:Eq (mV R a len cap P2 w w4 X (X+1) b q g1 nm c1 G c g3 ns c3 g0 A.length d0 h1 B.length d1 h2 C.length d2 M A B C S):=n.o.read a9 a8;have bv:Eq (jE kk tt qq d nn):=bP;clear bP a8 a9 n;go_wp2_with fail
    refine hK.o _ _ (g.o _ S5.o.bx) fun D=>?_
    (try go_frame);refine rO 4 fun K hK=>?_
    go_simp;have kc:Bl w4 (w4.alloc (.cells #[.string kk,iT qq,iT d,.string tt,iT nn] 50)):=bZ;have Y:Eq (mV R a len cap P2 w (w4.alloc (.cells #[.string kk,iT qq,iT d,.string tt,iT nn] 50)) X (X+1) b q g1 nm c1 G c g3 ns c3 g0 A.length d0 h1 B.length d1 h2 C.length d2 M A B C S):=S5.o.below kc;have x:=q9 w4 kk qq d tt nn;clear kc S5;generalize w4.heap.size=gb at x ⊢;generalize w4.alloc (.cells #[.string kk,iT qq,iT d,.string tt,iT nn] 50)=w5 at Y x ⊢;refine hK.o _ _ (g.o _ Y.o.bx) fun D=>?_
    (try go_frame);refine rO 5 fun K hK=>?_
    have c6:=Y.o.bt.mem.len;have aU:=HQ.o;refine fM rfl (.tmp 44) (.tmp 47) 28 rfl w.heap.size 50 i0 _ 5 56 Tryz.underlying28 hi cM cT cB rfl (by decide) g1 nm c1 _ rfl Y.o.bt.mem.owns ⟨gb,0,none⟩ 1 1 [.string kk,iT qq,iT d,.string tt,iT nn] rfl rfl x (by intro u hu;simp at hu;rcases hu with rfl | rfl | rfl | rfl | rfl <;> rfl) (by unfold maxLen;omega) (by omega) Y.o.gr.size ?_;intro g8 c8 H U f N;obtain ⟨⟨s1,kE⟩,_⟩:=Y.o.bt.kinds;obtain ⟨y1,y2,y3,y4,y5⟩:=Y.o.wrote f kE (by decide) Y.o.bt.mem.lt.1;have al:Eq (ay H X (iT q) (sL g1 nm c1) (sL G 3 c) (sL g3 ns c3)):=y2;have a5:ah H w.heap.size g8 (nm+1) c8 (M++[((kk,qq,d,tt,nn):ac)]):=⟨by rw [bw];exact U,by rw [Gj,c6];rfl,fun l hl=>by
     rcases Gw.1 hl with h | h
     · exact Y.o.bt.mem.ents l h
     · rw [GC] at h;subst h;exact jW bv.o⟩
    have bo:Eq (DQ R H (pT g8) (nm+1) c8 (pT G) 3 c (pT g3) ns c3 (M++[((kk,qq,d,tt,nn):ac)]) [A,B,C] S):=by
     have t:=Y.o.bt;have E:R<b:=E' F.o.2 t.top.1;exact jN a5 (cQ t.row t.mem.owns (by decide) f) ((t.rA.low t.far f).lvQ E) ((t.rB.low t.far f).lvQ E) ((t.rC.low t.far f).lvQ E) (cQ t.sn t.mem.owns (by decide) f) t.slen t.swf F.o.2
    have HY:Eq (bf H R a len cap P2∧ay H (X+1) (iT 0) nZ nZ nZ∧(aq H X 31 4∧aq H (X+1) 31 4)∧w.grownBy H (some R)):=⟨y1,y3,y4,y5⟩;have aC:Eq _:=Y.o.top;clear U f N kE y1 y2 y3 y4 y5 a5 Y x c6 aU;refine hK.o _ _ (g.o _ al.o) fun D=>?_
    (try go_frame);refine uG 6 1 D ?_;refine E9 7 fun K hK=>?_
    have x0:=al.o.all;go_simp;refine hK.o _ _ ?_;clear hK K;(try go_frame);refine dZ ?_;clear x0 D g;go_wp2;go_meet
    exact ps 1 _ HY.o.1 (by omega) (al.o.set1 _) HY.o.2.1 HY.o.2.2.1 (G5 (by have:=HQ.o;omega)) bo.o (mX.all ⟨O.o.1.app (fun l hl=>by rw [GC] at hl;subst hl;exact bv.o.1.2.2),O.o.2⟩) HY.o.2.2.2 aC.o
  have dJ:(k == 1)=false:=by simpa using k1
  by_cases k2:k=2
  · subst k2;have x0:=J.o.bx.all;have du:(2:Int)≤((3:Nat):Int):=by omega
    have dx:3≤c:=by have:=(cy J.o.bt.row).1;omega
    have dS:(2:Int)≤(c:Int):=by omega
    have e5:2≤c:=by omega
    go_wp2;go_meet
    have t:=J.o.bt;have E:R<b:=E' F.o.2 t.top.1;exact ps 2 _ J.o.rd (by omega) (J.o.bx.set2 _) J.o.br J.o.kx (G5 (by have:=HQ.o;omega)) (Eb t.mem t.row (t.rA.lvQ E) (t.rB.lvQ E) (t.rC.lvQ E) t.sn t.slen t.swf F.o.2) ⟨O.o.1,fun Z hZ=>O.o.all.2 Z (by simp at hZ ⊢;rcases hZ with h | h <;> simp [h])⟩ J.o.gr J.o.top
  have e0:(k == 2)=false:=by simpa using k2
  by_cases k3:k=3
  · subst k3;have g:Eq (∀w',ay w' X (iT q) (sL g1 nm c1) (sL G 3 c) (sL g3 ns c3)→(fun w':World=>w'.cell? ⟨X,0,none⟩=some (iT q)∧w'.cell? ⟨X,1,none⟩=some (sL g1 nm c1)∧w'.cell? ⟨X,2,none⟩=some (sL G 3 c)∧w'.cell? ⟨X,3,none⟩=some (sL g3 ns c3)∧X<w'.heap.size) w'):=fun w' b=>⟨b.c0,b.c1,b.c2,b.c3,b.lt⟩
    have n:Eq (mV R a len cap (P+1) w w3.drew X (X+1) b q g1 nm c1 G c g3 ns c3 g0 A.length d0 h1 B.length d1 h2 C.length d2 M A B C S):=J.o.below (Below.refl _ w3).drew;have be:IntKind.i64.wrap (q+1)=q+1:=by have:=HQ.o;rw [GB];unfold wrap64;omega
    clear J;go_upto_region 14 with fail
    refine Fi 13 g n.o.bx fun D=>?_
    generalize w3.drew=wd at D n ⊢;refine uG 0 8 D ?_;refine rO 8 fun K hK=>?_
    go_simp;have kc:Bl wd (wd.alloc (.cells ((([0,q+1,-1,q]:List Int).map iT).toArray) 3)):=bZ;have S5:Eq (mV R a len cap (P+1) w (wd.alloc (.cells ((([0,q+1,-1,q]:List Int).map iT).toArray) 3)) X (X+1) b q g1 nm c1 G c g3 ns c3 g0 A.length d0 h1 B.length d1 h2 C.length d2 M A B C S):=n.o.below kc;have az:=eQ wd 3 [0,q+1,-1,q] Wf (by
     intro s hs;have:=HQ.o;simp only [Gz,GZ,or_false] at hs;rcases hs with rfl | rfl | rfl | rfl <;> exact G5 (by omega))
    have bg:wd.heap.size≠R:=by have:=n.o.rd.lt;omega
    have aA:wd.heap.size<(wd.alloc (.cells ((([0,q+1,-1,q]:List Int).map iT).toArray) 3)).heap.size:=by simp
    clear kc n be;simp only [If,IB] at az aA S5;generalize wd.heap.size=gn at az bg aA ⊢;generalize wd.alloc (.cells [iT 0,iT (q+1),iT (-1),iT q].toArray 3)=w4 at az aA S5 ⊢;refine hK.o _ _ (g.o _ S5.o.bx) fun D=>?_
    (try go_frame);refine rO 9 fun K hK=>?_
    go_simp;refine (fc Wf R (P+1) a len cap gn 0 4 4 _ S5.o.rd (by omega) (by omega) (by omega) bg aA az).mono ?_;rintro e w5 ⟨z,rfl,hz,aD,aE⟩;have Y:Eq (mV R a len cap (P+1+1) w w5 X (X+1) b q g1 nm c1 G c g3 ns c3 g0 A.length d0 h1 B.length d1 h2 C.length d2 M A B C S):=S5.o.read aE aD;have HZ:Eq (Wf z):=hz;clear hz aD aE S5 az bg aA;go_wp2_with fail
    refine hK.o _ _ (g.o _ Y.o.bx) fun D=>?_
    (try go_frame);refine rO 10 fun K hK=>?_
    go_simp;have kc:Bl w5 (w5.alloc (.cells #[iT z] 3)):=bZ;have S7:Eq (mV R a len cap (P+1+1) w (w5.alloc (.cells #[iT z] 3)) X (X+1) b q g1 nm c1 G c g3 ns c3 g0 A.length d0 h1 B.length d1 h2 C.length d2 M A B C S):=Y.o.below kc;have x:=dO w5 (iT z) 3;clear kc Y;generalize w5.heap.size=gb at x ⊢;generalize w5.alloc (.cells #[iT z] 3)=w6 at S7 x ⊢;refine hK.o _ _ (g.o _ S7.o.bx) fun D=>?_
    (try go_frame);refine rO 11 fun K hK=>?_
    have hsl:=S7.o.bt.slen;have aU:=HQ.o;refine fM rfl (.tmp 59) (.tmp 68) 24 rfl w.heap.size 3 j0 _ 1 8 Tryz.underlying24 hj cS cI cN rfl (by decide) g3 ns c3 _ rfl S7.o.bt.sn ⟨gb,0,none⟩ 1 1 [iT z] rfl rfl x (by intro u hu;simp at hu;subst hu;rfl) (by unfold maxLen;omega) (by omega) S7.o.gr.size ?_;intro g8 c8 H U f N;obtain ⟨_,_,⟨s1,kI⟩,_⟩:=S7.o.bt.kinds;obtain ⟨y1,y2,y3,y4,y5⟩:=S7.o.wrote f kI (by decide) (S7.o.bt.sn.lt g3 rfl).1;have al:Eq (ay H X (iT q) (sL g1 nm c1) (sL G 3 c) (sL g3 ns c3)):=y2;have bo:Eq (DQ R H (pT g1) nm c1 (pT G) 3 c (pT g8) (ns+1) c8 M [A,B,C] (S++[z])):=by
     have t:=S7.o.bt;have E:R<b:=E' F.o.2 t.top.1;exact jN (dP t.mem t.sn (by decide) f) (cQ t.row t.sn (by decide) f) ((t.rA.grown kI (by decide) (by decide) f).lvQ E) ((t.rB.grown kI (by decide) (by decide) f).lvQ E) ((t.rC.grown kI (by decide) (by decide) f).lvQ E) (by rw [Ht];exact U) (by rw [Gj,hsl];rfl) (fun y hy=>by
      rcases Gw.1 hy with h | h
      · exact t.swf y h
      · rw [GC] at h;subst h;exact HZ.o) F.o.2
    have HY:Eq (bf H R a len cap (P+1+1)∧ay H (X+1) (iT 0) nZ nZ nZ∧(aq H X 31 4∧aq H (X+1) 31 4)∧w.grownBy H (some R)):=⟨y1,y3,y4,y5⟩;have aC:Eq _:=S7.o.top;clear U f N kI y1 y2 y3 y4 y5 S7 x hsl aU;refine hK.o _ _ (g.o _ al.o) fun D=>?_
    (try go_frame);refine uG 12 1 D ?_;refine E9 13 fun K hK=>?_
    have x0:=al.o.all;go_simp;refine hK.o _ _ ?_;clear hK K;(try go_frame);refine dZ ?_;clear x0 D g;go_wp2;go_meet
    exact ps 3 _ HY.o.1 (by omega) (al.o.set3 _) HY.o.2.1 HY.o.2.2.1 (G5 (by have:=HQ.o;omega)) bo.o O.o.all HY.o.2.2.2 aC.o
  have dX:(k == 3)=false:=by simpa using k3
  by_cases k4:k=4
  · subst k4;have x0:=J.o.bx.all;have y0:=J.o.bt.row.cellAt 0 (by omega);have y1:=J.o.bt.row.cellAt 1 (by omega);have y2:=J.o.bt.row.cellAt 2 (by omega);have yf:=J.o.bt.row.frozenAt;have yz:=(J.o.bt.row.lt G rfl).2;simp only [Ic,Hg] at y0 y1 y2;have ba:X≠G:=fun e=>by obtain ⟨_,⟨s1,kG⟩,_⟩:=J.o.bt.kinds;rw [← e] at kG;exact absurd (J.o.kx.1.kind kG) (by decide)
    have bn:G≠X:=fun e=>ba e.symm
    have g:Eq (∀w':World,(w'.cell? ⟨X,2,none⟩=some (sL G 3 c)∧X<w'.heap.size∧w'.cell? ⟨G,2,none⟩=some (sL h2 C.length d2)∧G<w'.heap.size)→(fun w':World=>w'.cell? ⟨X,2,none⟩=some (sL G 3 c)∧X<w'.heap.size∧w'.cell? ⟨G,2,none⟩=some (sL h2 C.length d2)∧G<w'.heap.size) w'):=fun _ h=>h
    go_upto_region 17 with fail
    have n:Eq (mV R a len cap (P+1) w w3.drew X (X+1) b q g1 nm c1 G c g3 ns c3 g0 A.length d0 h1 B.length d1 h2 C.length d2 M A B C S):=J.o.below (Below.refl _ w3).drew;clear J x0 y0 y1 y2 yf yz;refine eJ g ⟨n.o.bx.c2,n.o.bx.lt,n.o.bt.row.cellAt 2 (by omega),(n.o.bt.row.lt G rfl).2⟩ fun D=>?_
    generalize w3.drew=wd at D n ⊢;refine aO 0 7 D ?_;refine aS 7 fun K hK=>?_
    have y0:=n.o.bt.row.cellAt 0 (by omega);have y1:=n.o.bt.row.cellAt 1 (by omega);have y2:=n.o.bt.row.cellAt 2 (by omega);have yf:=n.o.bt.row.frozenAt;have yz:=(n.o.bt.row.lt G rfl).2;simp only [Ic,Hg] at y0 y1 y2;go_simp;refine hK.o _ _ ?_ (fun D=>?_)
    · exact ⟨(n.o.bx.other bn _).c2,(n.o.bx.other (o:=0) bn (sL h2 C.length d2)).lt,by rw [Gh _ _ _ _ (by simp)];exact y2,by simpa [World.setCell] using yz⟩
    clear hK K y0 y1 y2;(try go_frame);refine dN ?_;clear D g;have xb:=n.o.bx.other (b':=G) (o:=0) bn (sL h2 C.length d2);have x2:=xb.c2;have xz:=xb.lt;have aK:=(n.o.bt.row.stored 0 (sL h2 C.length d2)).1;have y2:=aK.cellAt 2 (by omega);have yf:=aK.frozenAt;have yz:=(aK.lt G rfl).2;clear aK xb;go_wp2;go_meet
    have t:=n.o.bt;obtain ⟨_,⟨s1,kG⟩,_⟩:=t.kinds;have cG:=(t.row.lt G rfl).1;have s2:=dg wd G 0 (sL h2 C.length d2);have s3:=dg (wd.setCell ⟨G,0,none⟩ (sL h2 C.length d2)) G 2 (sL g0 A.length d0);have hg:wd.grownBy _ (some G):=ae s2 s3;obtain ⟨z1,z2,z3,z4,z5⟩:=n.o.wrote hg kG (by decide) cG;exact pt z1 (by omega) z2 z3 z4.2 (G5 (by have:=HQ.o;omega)) (t.swap.rdT F.o.2) (mX.all ⟨O.o.1,O.o.2.2.2,O.o.2.2.1,O.o.2.1⟩) z5 ⟨n.o.top.2.1,n.o.top.2.2.2⟩
  have dK:(k == 4)=false:=by simpa using k4
  by_cases k5:k=5
  · subst k5;go_wp2;go_loopw [7] (fun iv wr=>∃(i P' g0 n0 d0 h1 n1 d1 h2 n2 d2:Nat) (A B C:List af),iv=iT (i:Int)∧i≤5∧P'≤P+1+160*i∧n0≤4+i∧mV R a len cap P' w wr X (X+1) b q g1 nm c1 G c g3 ns c3 g0 n0 d0 h1 n1 d1 h2 n2 d2 M A B C S∧mX M A B C) (fun iv _=>(5 - (intOf iv).toNat))
    case atStart=>exact ⟨0,P+1,g0,A.length,d0,h1,B.length,d1,h2,C.length,d2,A,B,C,rfl,by omega,by omega,by have:=HQ.o;omega,J.o,O.o⟩
    case round =>
     clear J;obtain ⟨i,P',g0,n0,d0,h1,n1,d1,h2,n2,d2,A,B,C,rfl,dG,cg,dV,hS,cn⟩:=hrel;have bL:Eq (mX M A B C):=cn;clear cn;have n:Eq (mV R a len cap P' w wr X (X+1) b q g1 nm c1 G c g3 ns c3 g0 n0 d0 h1 n1 d1 h2 n2 d2 M A B C S):=hS;clear hS;by_cases dr:i<5
     · have bT:(i:Int)<5:=by omega
       have dz:IntKind.i64.wrap ((i:Int)+1)=(i:Int)+1:=by rw [GB];unfold wrap64;omega
       have g:Eq (∀w',(∃P2,mV R a len cap P2 w w' X (X+1) b q g1 nm c1 G c g3 ns c3 g0 n0 d0 h1 n1 d1 h2 n2 d2 M A B C S)→(fun w':World=>w'.cell? ⟨X,0,none⟩=some (iT q)∧w'.cell? ⟨X,1,none⟩=some (sL g1 nm c1)∧w'.cell? ⟨X,2,none⟩=some (sL G 3 c)∧w'.cell? ⟨X,3,none⟩=some (sL g3 ns c3)∧w'.cell? ⟨G,0,none⟩=some (sL g0 n0 d0)∧X<w'.heap.size∧G<w'.heap.size) w'):=fun w' hb=>by
        obtain ⟨P2,hb⟩:=hb;exact ⟨hb.bx.c0,hb.bx.c1,hb.bx.c2,hb.bx.c3,by have:=hb.bt.row.cellAt 0 (by omega);simpa using this,hb.bx.lt,(hb.bt.row.lt G rfl).2⟩
       have S5:Eq (mV R a len cap P' w wr.drew X (X+1) b q g1 nm c1 G c g3 ns c3 g0 n0 d0 h1 n1 d1 h2 n2 d2 M A B C S):=n.o.below (Below.refl _ wr).drew;clear n;go_upto_region 23 with fail
       refine Fi 13 g ⟨P',S5.o⟩ fun D=>?_
       generalize wr.drew=wd at D S5 ⊢;refine uG 0 3 D ?_;refine uG 4 5 D ?_;refine rO 3 fun K hK=>?_
       go_simp;refine (cJ R P' a len cap 3 _ S5.o.rd (by omega) (by omega)).mono ?_;rintro e w4 ⟨kp,rfl,hk,a8,a9⟩;have Y:Eq (mV R a len cap (P'+1) w w4 X (X+1) b q g1 nm c1 G c g3 ns c3 g0 n0 d0 h1 n1 d1 h2 n2 d2 M A B C S):=S5.o.read a9 a8;have ca:0≤kp∧kp<3:=⟨hk.1,hk.2 (by omega)⟩;obtain ⟨kn,rfl⟩:=Hk ca.1;have cH:kn<3:=by omega
       have cY:(kn:Int)<3:=by omega
       have d6:(kn:Int)<((3:Nat):Int):=by omega
       clear hk ca a8 a9 S5;go_wp2_with fail
       refine hK.o _ _ (g.o _ ⟨_,Y.o⟩) fun D=>?_
       (try go_frame);refine rO 9 fun K hK=>?_
       go_simp;refine (x9 R (P'+1) a len cap _ Y.o.rd Y.o.top.2.2.2.2 (by omega)).mono ?_;rintro e w5 ⟨ge,ne,ce,P3,m,L,rfl,hO,bN,bA,bB,aD,dW,aE⟩;have S7:Eq (mV R a len cap P3 w w5 X (X+1) b q g1 nm c1 G c g3 ns c3 g0 n0 d0 h1 n1 d1 h2 n2 d2 M A B C S):=Y.o.read aE aD;have HO:Eq (ah w5 b ge ne ce L):=hO.mono Y.o.bt.top.2;have aM:Eq ((Lit.int .i64 m).wf=true):=bB;have bJ:Eq (pu L):=fun e he=>(bA e he).1.2.2
       clear hO bA bB aD aE Y bN;go_wp2_with fail
       refine hK.o _ _ (g.o _ ⟨_,S7.o⟩) fun D=>?_
       (try go_frame);refine rO 10 fun K hK=>?_
       go_simp;have kc:Bl w5 (w5.alloc (.cells #[sL ge ne ce,iT m] 63)):=bZ;have S8:Eq (mV R a len cap P3 w (w5.alloc (.cells #[sL ge ne ce,iT m] 63)) X (X+1) b q g1 nm c1 G c g3 ns c3 g0 n0 d0 h1 n1 d1 h2 n2 d2 M A B C S):=S7.o.below kc;have a5:Eq (ah (w5.alloc (.cells #[sL ge ne ce,iT m] 63)) b ge ne ce L):=HO.o.below kc;have x:=bC w5 (sL ge ne ce) (iT m) 63;clear kc S7 HO;generalize w5.heap.size=gb at x ⊢;generalize w5.alloc (.cells #[sL ge ne ce,iT m] 63)=w6 at S8 a5 x ⊢;refine hK.o _ _ (g.o _ ⟨_,S8.o⟩) fun D=>?_
       (try go_frame);refine rO 11 fun K hK=>?_
       have cR:=S8.o.bt.rA;obtain ⟨q1,q2,dD,q3,q4⟩:=cR;refine fM rfl (.tmp 101) (.tmp 104) 61 rfl b 63 l0 _ 2 32 Tryz.underlying61 hl c4 bQ bW rfl (by decide) g0 n0 d0 _ rfl q3 ⟨gb,0,none⟩ 1 1 [sL ge ne ce,iT m] rfl rfl x (by intro u hu;simp at hu;rcases hu with rfl | rfl <;> rfl) (by unfold maxLen;omega) (by omega) S8.o.bt.top.2 ?_;intro g8 c8 H U f N;have cA:=a5.o.len;subst cA;have hD:=ig q1 q2 q3 (fun i p hp=>q4 i p hp) a5.o aM.o f U;obtain ⟨s1,kA⟩:=aP q3;have t:=S8.o.bt;obtain ⟨A',ck,nA⟩:=t.rA.beside t.rA f N a5.o aM.o;obtain ⟨B',bS,nB⟩:=t.rB.beside t.rA f N a5.o aM.o;obtain ⟨C',bM,nC⟩:=t.rC.beside t.rA f N a5.o aM.o;obtain ⟨z1,z2,z3,z4,z5⟩:=S8.o.wrote f kA (by decide) (Gq t.top.1 (q3.lt g0 rfl).1);have S9:Eq (mV R a len cap P3 w H X (X+1) b q g1 nm c1 G c g3 ns c3 g0 n0 d0 h1 n1 d1 h2 n2 d2 M A' B' C' S):=⟨z1,z2,z3,z4,⟨dP t.mem q3 (by decide) f,cQ t.row q3 (by decide) f,ck,bS,bM,cQ t.sn q3 (by decide) f,t.slen,t.swf,t.far,t.top.1,Gq t.top.2 f.size⟩,z5,S8.o.top⟩;have bI:Eq (mX M A' B' C'∧oz (A++[(L,m)])):=by
        have hx:∀{Z Z':List af},oz Z→(∀p ∈ Z',p ∈ Z∨p=(L,m))→oz Z':=fun h k p hp=>(k p hp).elim (h p) (fun e=>by rw [e];exact bJ.o)
        have k:=bL.o;exact ⟨⟨k.1,hx k.2.1 nA,hx k.2.2.1 nB,hx k.2.2.2 nC⟩,k.2.1.app (oz.one bJ.o)⟩
       clear nA nB nC;have HD:Eq (bj b H g8 (n0+1) c8 (A++[(L,m)])):=hD;clear q1 q2 q3 q4 U f N hD kA t ck bS bM z1 z2 z3 z4 z5 S8 a5 x;refine hK.o _ _ (by have hb:=S9.o;exact ⟨hb.bx.c0,hb.bx.c1,hb.bx.c2,hb.bx.c3,by have:=hb.bt.row.cellAt 0 (by omega);simpa using this,hb.bx.lt,(hb.bt.row.lt G rfl).2⟩) fun D=>?_
       (try go_frame);refine uG 12 1 D ?_;refine E9 13 fun K hK=>?_
       have yc:∃v,H.cell? ⟨G,kn,none⟩=some v:=by
        rcases (by omega:kn=0∨kn=1∨kn=2) with rfl | rfl | rfl
        · exact ⟨_,S9.o.bt.row.cellAt 0 (by omega)⟩
        · exact ⟨_,S9.o.bt.row.cellAt 1 (by omega)⟩
        · exact ⟨_,S9.o.bt.row.cellAt 2 (by omega)⟩
       obtain ⟨yv,yc⟩:=yc;have yf:=S9.o.bt.row.frozenAt;have yz:=(S9.o.bt.row.lt G rfl).2;go_simp;refine hK.o _ _ ?_;clear hK K yc yf yz;(try go_frame);refine dZ ?_;clear D g;go_wp2;go_roundw
       case rel =>
        obtain ⟨a0,m0,cW,a1,m1,cV,a2,m2,cE,A2,B2,C2,hb,I,cw⟩:=S9.o.bt.putL HD.o kn cH (by omega);obtain ⟨_,⟨s1,kG⟩,_⟩:=S9.o.bt.kinds;obtain ⟨z1,z2,z3,z4,z5⟩:=S9.o.wrote (dg H G kn (sL g8 (n0+1) c8)) kG (by decide) (S9.o.bt.row.lt G rfl).1;exact ⟨i+1,P3,a0,m0,cW,a1,m1,cV,a2,m2,cE,A2,B2,C2,by rw [show ((i+1:Nat):Int)=(i:Int)+1 by omega],by omega,by omega,by omega,⟨z1,z2,z3,z4,hb,z5,S9.o.top⟩,cw bI.o.1 bI.o.2⟩
       case measure=>simp [intOf];omega
     · have bT:¬(i:Int)<5:=by omega
       go_wp2_with fail
       go_meet
       have s:=n.o;exact pt s.rd (by omega) s.bx s.br s.kx.2 (G5 (by have:=HQ.o;omega)) (s.bt.rdT F.o.2) bL.o.all s.gr ⟨s.top.2.1,s.top.2.2.2⟩
  have dw:(k == 5)=false:=by simpa using k5
  have g:Eq (∀w',(∃P2,mV R a len cap P2 w w' X (X+1) b q g1 nm c1 G c g3 ns c3 g0 A.length d0 h1 B.length d1 h2 C.length d2 M A B C S)→(fun w':World=>w'.cell? ⟨X,0,none⟩=some (iT q)∧w'.cell? ⟨X,1,none⟩=some (sL g1 nm c1)∧w'.cell? ⟨X,2,none⟩=some (sL G 3 c)∧w'.cell? ⟨X,3,none⟩=some (sL g3 ns c3)∧w'.cell? ⟨G,1,none⟩=some (sL h1 B.length d1)∧X<w'.heap.size∧G<w'.heap.size) w'):=fun w' hb=>by
   obtain ⟨P2,hb⟩:=hb;exact ⟨hb.bx.c0,hb.bx.c1,hb.bx.c2,hb.bx.c3,by have:=hb.bt.row.cellAt 1 (by omega);simpa using this,hb.bx.lt,(hb.bt.row.lt G rfl).2⟩
  have n:Eq (mV R a len cap (P+1) w w3.drew X (X+1) b q g1 nm c1 G c g3 ns c3 g0 A.length d0 h1 B.length d1 h2 C.length d2 M A B C S):=J.o.below (Below.refl _ w3).drew;clear J;go_upto_region 6 with fail
  refine Fi 10 g ⟨_,n.o⟩ fun D=>?_
  generalize w3.drew=wd at D n ⊢;refine uG 0 7 D ?_;refine rO 7 fun K hK=>?_
  go_simp;have kc:Bl wd (wd.alloc (.cells #[nZ,iT 0] 63)):=bZ;have S8:Eq (mV R a len cap (P+1) w (wd.alloc (.cells #[nZ,iT 0] 63)) X (X+1) b q g1 nm c1 G c g3 ns c3 g0 A.length d0 h1 B.length d1 h2 C.length d2 M A B C S):=n.o.below kc;have x:=bC wd nZ (iT 0) 63;clear kc n;generalize wd.heap.size=gb at x ⊢;generalize wd.alloc (.cells #[nZ,iT 0] 63)=w6 at S8 x ⊢;refine hK.o _ _ (g.o _ ⟨_,S8.o⟩) fun D=>?_
  (try go_frame);refine rO 8 fun K hK=>?_
  have cu:=S8.o.bt.rB;obtain ⟨q1,q2,dF,q3,q4⟩:=cu;have aU:=HQ.o;refine fM rfl (.tmp 27) (.tmp 29) 61 rfl b 63 l0 _ 2 32 Tryz.underlying61 hl c4 bQ bW rfl (by decide) h1 B.length d1 _ rfl q3 ⟨gb,0,none⟩ 1 1 [nZ,iT 0] rfl rfl x (by intro u hu;simp at hu;rcases hu with rfl | rfl <;> rfl) (by unfold maxLen;omega) (by omega) S8.o.bt.top.2 ?_;intro g8 c8 H U f N;obtain ⟨s1,kB⟩:=aP q3;have t:=S8.o.bt;have E:R<b:=E' F.o.2 t.top.1;have ct:Eq (R<b):=E;obtain ⟨z1,z2,z3,z4,z5⟩:=S8.o.wrote f kB (by decide) (Gq t.top.1 (q3.lt h1 rfl).1);have HM:Eq (ah H w.heap.size g1 nm c1 M):=dP t.mem q3 (by decide) f;have T:Eq (H.ownsRow w.heap.size 61 1 (sL G 3 c) 3 [sL g0 A.length d0,sL h1 B.length d1,sL h2 C.length d2]):=cQ t.row q3 (by decide) f;have cF:Eq (∀v,Br R (H.setCell ⟨G,1,none⟩ v) (pT g8) (B.length+1) c8 (B++[([],0)])):=fun v=>Ej q1 q2 q3 q4 (fun {e d L} hO=>dP (hO.grown f (fun e'=>by
   obtain ⟨s4,k4⟩:=aP hO.owns;have cr:e=h1:=Gi e';rw [cr] at k4;exact absurd (kB.kind k4) (by decide))) T.o (by decide) (dg _ _ _ _)) (cQ U T.o (by decide) (dg _ _ _ _)) E
  have bG:Eq (bj b H g0 A.length d0 A∧bj b H h2 C.length d2 C):=⟨t.rA.grownR kB (fun e=>bK.o.1 e.symm) f,t.rC.grownR kB (fun e=>bK.o.2 e.symm) f⟩;have bk:Eq (H.ownsRow w.heap.size 3 1 (sL g3 ns c3) ns (S.map iT)∧S.length=ns∧∀z ∈ S,(Lit.int .i64 z).wf=true):=⟨cQ t.sn q3 (by decide) f,t.slen,t.swf⟩;have c5:Eq (ay H X (iT q) (sL g1 nm c1) (sL G 3 c) (sL g3 ns c3)):=z2;have HZ:Eq (bf H R a len cap (P+1)∧ay H (X+1) (iT 0) nZ nZ nZ∧(aq H X 31 4∧aq H (X+1) 31 4)∧w.grownBy H (some R)):=⟨z1,z3,z4,z5⟩;have aC:Eq (w.heap.size≤X∧w.heap.size≤X+1∧X≠X+1∧R<w.heap.size∧tC a len R):=S8.o.top;clear q1 q2 q3 q4 U f N kB t z1 z2 z3 z4 z5 S8 x E;refine hK.o _ _ (by have hb:=c5.o;exact ⟨hb.c0,hb.c1,hb.c2,hb.c3,by have:=T.o.cellAt 1 (by omega);simpa using this,hb.lt,(T.o.lt G rfl).2⟩) fun D=>?_
  (try go_frame);refine uG 9 1 D ?_;refine E9 10 fun K hK=>?_
  have y1:=T.o.cellAt 1 (by omega);have yf:=T.o.frozenAt;have yz:=(T.o.lt G rfl).2;simp only [Ic,Hg] at y1;go_simp;refine hK.o _ _ ?_;clear hK K y1 yf yz;(try go_frame);refine dZ ?_;clear D g;go_wp2;go_meet
  obtain ⟨s1,kG⟩:=aP T.o;have sg:=dg H G 1 (sL g8 (B.length+1) c8);have ba:X≠G:=fun e=>by rw [← e] at kG;exact absurd (HZ.o.2.2.1.1.kind kG) (by decide)
  have b3:X+1≠G:=fun e=>by rw [← e] at kG;exact absurd (HZ.o.2.2.1.2.kind kG) (by decide)
  have I:=(T.o.lt G rfl).1;have hT:=aC.o;refine pt (HZ.o.1.grown sg hT.2.2.2.2 (fun k e=>by cases e;omega)) (by omega) (c5.o.grownB sg ba) (HZ.o.2.1.grownB sg b3) (HZ.o.2.2.1.2.grown sg b3) (G5 (by have:=HQ.o;omega)) (M:=M) (V:=[A,B++[([],0)],C]) (S:=S) ?_ (mX.all ⟨O.o.1,O.o.2.1,O.o.2.2.1.app (oz.one tR),O.o.2.2.2⟩) (aH HZ.o.2.2.2 I sg) ⟨hT.2.1,hT.2.2.2⟩;have E:=ct.o;exact jN (dP HM.o T.o (by decide) sg) (T.o.stored 1 (sL g8 (B.length+1) c8)).1 ((bG.o.1.grown kG (by decide) (by decide) sg).lvQ E) (cF.o _) ((bG.o.2.grown kG (by decide) (by decide) sg).lvQ E) (cQ bk.o.1 T.o (by decide) sg) bk.o.2.1 bk.o.2.2 F.o.2
 case rest =>
  obtain ⟨P',q,am,nm,cm,av,nv,cv,ak,ns,cs,cc,cg,bF,bl,bR,b5,cj,c9,bX⟩:=hcut;have cC:Eq (rk (.agg #[iT q,.slice am nm cm,.slice av nv cv,.slice ak ns cs])):=bX;have HA:Eq (e9 lo R wc (.agg #[iT q,.slice am nm cm,.slice av nv cv,.slice ak ns cs])):=b5;have bU:Eq (ay wc (X+1) (iT 0) nZ nZ nZ):=bl;have HY:Eq (bf wc R a len cap P'∧aq wc (X+1) 31 4∧w.grownBy wc (some R)∧w.heap.size≤X+1∧R<w.heap.size∧tC a len R):=⟨cc,bR,cj,c9⟩;have x0:=bF.all;have r0:=bl.all;clear cc bF bl bR b5 cj c9 bX J;go_wp2;refine bodyPost_ret (v:=.agg #[iT q,.slice am nm cm,.slice av nv cv,.slice ak ns cs]) ?_ rfl ⟨_,P',rfl,HA.o.four HY.o.2.1 bU.o,?_,cg,?_,fun _=>cC.o⟩
  · have e:=(((bU.o.set0 (iT q)).set1 (.slice am nm cm)).set2 (.slice av nv cv)).set3 (.slice ak ns cs);simp [results,Tryz.results76,go_sem,e.all]
  · have ht:=HY.o.2.2.2;have Q:X+1≠R:=by omega
    have r:∀b a3,a=some ⟨b,a3,none⟩→0<len→b≠X+1:=fun b a3 e hl=>by
     rcases ht.2.2 with h0 | h0
     · omega
     · have:=h0 b a3 e;omega
    exact (((HY.o.1.other Q r _ _).other Q r _ _).other Q r _ _).other Q r _ _
  · have I:w.heap.size≤X+1:=HY.o.2.2.2.1;exact aH (aH (aH (aH HY.o.2.2.1 I (dg _ _ _ _)) I (dg _ _ _ _)) I (dg _ _ _ _)) I (dg _ _ _ _)
end Go.Proofs.YtpobkmjicbobdaaGreat
