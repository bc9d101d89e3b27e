/- Walks. -/
import Derived.Test.YtpobkmjicbobdaaGreatBl33
namespace Go.Proofs.YtpobkmjicbobdaaGreat
set_option maxRecDepth 100000
set_option maxHeartbeats 40000000
open Go.RowKit
variable {A B C:List an} {G P P' R X Z b base c c1 c3 cap cm cs cv d0 d1 d2 g0 g1 g3 h1 h2 len n0 n1 n2 nm ns nv:Nat} {M:List ac} {S:List Int} {V:List (List an)} {a ak am av:Option Addr} {q:Int} {w wi wj:World}
structure ua (base b:Nat) (w:World) (g1 nm c1 G c g3 ns c3 g0 n0 d0 h1 n1 d1 h2 n2 d2:Nat) (M:List ac) (A B C:List an) (S:List Int):Prop where
 mem:af w base g1 nm c1 M
 row:w.ownsRow base 61 1 (sL G 3 c) 3 [sL g0 n0 d0,sL h1 n1 d1,sL h2 n2 d2]
 rA:bh b w g0 n0 d0 A
 rB:bh b w h1 n1 d1 B
 rC:bh b w h2 n2 d2 C
 sn:w.ownsRow base 3 1 (sL g3 ns c3) ns (S.map iT)
 slen:S.length=ns
 swf:∀z ∈ S,(Lit.int .i64 z).wf=true
 far:g1<b
 top:base≤b∧b≤w.heap.size
theorem ua.kp {w':World} (h:ua base b w g1 nm c1 G c g3 ns c3 g0 n0 d0 h1 n1 d1 h2 n2 d2 M A B C S) (hR:R<base) (k:iW R w w'):ua base b w' g1 nm c1 G c g3 ns c3 g0 n0 d0 h1 n1 d1 h2 n2 d2 M A B C S :=
 have hb:R<b:=l' hR h.top.1
 ⟨h.mem.kp hR k,jc h.row (by decide) hR k,h.rA.kp hb k,h.rB.kp hb k,h.rC.kp hb k,jc h.sn (by decide) hR k,h.slen,h.swf,h.far,h.top.1,C8 h.top.2 k.1⟩
theorem ua.rdT (h:ua base b w g1 nm c1 G c g3 ns c3 g0 n0 d0 h1 n1 d1 h2 n2 d2 M A B C S) (hR:R<base):Ad R w (pT g1) nm c1 (pT G) 3 c (pT g3) ns c3 M [A,B,C] S :=
 have hb:R<b:=l' hR h.top.1
 je h.mem h.row (h.rA.lvQ hb) (h.rB.lvQ hb) (h.rC.lvQ hb) h.sn h.slen h.swf hR
theorem ua.kinds (h:ua base b w g1 nm c1 G c g3 ns c3 g0 n0 d0 h1 n1 d1 h2 n2 d2 M A B C S):(∃sz,au w g1 50 sz)∧(∃sz,au w G 61 sz)∧(∃sz,au w g3 3 sz)∧(∃sz,au w g0 63 sz)∧(∃sz,au w h1 63 sz):=by
 obtain ⟨_,_,xs,h3,_⟩:=h.rA;obtain ⟨_,_,d,h4,_⟩:=h.rB;exact ⟨aO h.mem.owns,aO h.row,aO h.sn,aO h3,aO h4⟩
structure lL (R:Nat) (a:Option Addr) (len cap P:Nat) (w wi:World) (X Z b:Nat) (q:Int) (g1 nm c1 G c g3 ns c3 g0 n0 d0 h1 n1 d1 h2 n2 d2:Nat) (M:List ac) (A B C:List an) (S:List Int):Prop where
 rd:aZ wi R a len cap P
 bx:az wi X (iT q) (sL g1 nm c1) (sL G 3 c) (sL g3 ns c3)
 br:az wi Z (iT 0) nZ nZ nZ
 kx:au wi X 31 4∧au wi Z 31 4
 bt:ua w.heap.size b wi g1 nm c1 G c g3 ns c3 g0 n0 d0 h1 n1 d1 h2 n2 d2 M A B C S
 gr:w.grownBy wi (some R)
 top:w.heap.size≤X∧w.heap.size≤Z∧X≠Z∧R<w.heap.size∧qM a len R
theorem lL.below (h:lL R a len cap P w wi X Z b q g1 nm c1 G c g3 ns c3 g0 n0 d0 h1 n1 d1 h2 n2 d2 M A B C S) (hb:Bl wi wj):lL R a len cap P w wj X Z b q g1 nm c1 G c g3 ns c3 g0 n0 d0 h1 n1 d1 h2 n2 d2 M A B C S :=
 ⟨h.rd.below hb,h.bx.keep hb,h.br.keep hb,⟨h.kx.1.below hb,h.kx.2.below hb⟩,h.bt.kp h.top.2.2.2.1 (iW.below hb),ae h.gr (aS hb),h.top⟩
theorem lL.read (h:lL R a len cap P w wi X Z b q g1 nm c1 G c g3 ns c3 g0 n0 d0 h1 n1 d1 h2 n2 d2 M A B C S) (hg:wi.grownBy wj (some R)) (hr:aZ wj R a len cap P'):lL R a len cap P' w wj X Z b q g1 nm c1 G c g3 ns c3 g0 n0 d0 h1 n1 d1 h2 n2 d2 M A B C S :=
 have e:X≠R:=by have:=h.top;omega
 have d:Z≠R:=by have:=h.top;omega
 ⟨hr,h.bx.grownB hg e,h.br.grownB hg d,⟨h.kx.1.grown hg e,h.kx.2.grown hg d⟩,h.bt.kp h.top.2.2.2.1 (iW.grown hg),ae h.gr hg,h.top⟩
theorem lL.wrote (h:lL R a len cap P w wi X Z b q g1 nm c1 G c g3 ns c3 g0 n0 d0 h1 n1 d1 h2 n2 d2 M A B C S) {g T sz:Nat} (hg:wi.grownBy wj (some g)) (n:au wi g T sz) (f:T≠31) (hl:w.heap.size≤g) :
 aZ wj R a len cap P∧az wj X (iT q) (sL g1 nm c1) (sL G 3 c) (sL g3 ns c3)∧az wj Z (iT 0) nZ nZ nZ∧(au wj X 31 4∧au wj Z 31 4)∧w.grownBy wj (some R):=by
 have o:=h.top;have m:X≠g:=fun e=>f (n.kind (e ▸ h.kx.1))
 have d:Z≠g:=fun e=>f (n.kind (e ▸ h.kx.2))
 exact ⟨h.rd.grown hg o.2.2.2.2 (fun k e=>by cases e;omega),h.bx.grownB hg m,h.br.grownB hg d,⟨h.kx.1.grown hg m,h.kx.2.grown hg d⟩,aG h.gr hl hg⟩
def Cp (lo R:Nat) (a:Option Addr) (len cap P:Nat) (w wz:World) (X Z:Nat):Prop:=∃P' q am nm cm av nv cv ak ns cs,aZ wz R a len cap P'∧P'≤P+1000∧az wz X (iT q) (.slice am nm cm) (.slice av nv cv) (.slice ak ns cs)∧az wz Z (iT 0) nZ nZ nZ∧au wz Z 31 4∧d9 lo R wz (.agg #[iT q,.slice am nm cm,.slice av nv cv,.slice ak ns cs])∧w.grownBy wz (some R)∧(w.heap.size≤Z∧R<w.heap.size∧qM a len R)∧pl (.agg #[iT q,.slice am nm cm,.slice av nv cv,.slice ak ns cs])
theorem nd {t:Nat} {d:World} (r:aZ d R a len cap P') (x:P'≤P+1000) (n:az d X (iT q) (.slice am nm cm) (.slice av nv cv) (.slice ak ns cs)) (f:az d Z (iT 0) nZ nZ nZ) (hk:au d Z 31 4) (hq:(Lit.int .i64 q).wf=true) (u:Ad R d am nm cm av nv cv ak ns cs M V S) (e:A6 M V) (m:w.grownBy d (some R)) (s:w.heap.size≤Z∧R<w.heap.size∧qM a len R) (hs:(∃g,am=some ⟨g,0,none⟩)∧∃g,ak=some ⟨g,0,none⟩:=by exact ⟨⟨_,rfl⟩,⟨_,rfl⟩⟩) (o:ns≤100:=by omega):Cp t R a len cap P w d X Z:=by
 obtain ⟨⟨_,rfl⟩,⟨_,rfl⟩⟩:=hs;exact ⟨P',q,_,nm,cm,av,nv,cv,_,ns,cs,r,x,n,f,hk,.inr ⟨q,_,nm,cm,av,nv,cv,_,ns,cs,M,V,S,rfl,hq,u,o,e⟩,m,s,⟨q,_,_,_,_,_,_,_,_,_,rfl⟩⟩
theorem m9 {F:Nat} (o:Nat) (u:Value) (y:aZ wi R a len cap P') (E:P'≤P+1000) (t:az (wi.setCell ⟨X,o,none⟩ u) X (iT q) (.slice am nm cm) (.slice av nv cv) (.slice ak ns cs)) (r:az wi Z (iT 0) nZ nZ nZ) (hk:au wi X 31 4∧au wi Z 31 4) (hq:(Lit.int .i64 q).wf=true) (H:Ad R wi am nm cm av nv cv ak ns cs M V S) (n:A6 M V) (s:w.grownBy wi (some R)) (f:w.heap.size≤X∧w.heap.size≤Z∧X≠Z∧R<w.heap.size∧qM a len R) (hs:(∃g,am=some ⟨g,0,none⟩)∧∃g,ak=some ⟨g,0,none⟩:=by exact ⟨⟨_,rfl⟩,⟨_,rfl⟩⟩) (x:ns≤100:=by omega):Cp F R a len cap P w (wi.setCell ⟨X,o,none⟩ u) X Z:=by
 have D:X≠R:=by omega
 have m:∀b d,a=some ⟨b,d,none⟩→0<len→b≠X:=fun b d e hl=>by
  rcases f.2.2.2.2 with h0 | h0
  · omega
  · have:=h0 b d e;omega
 exact nd (y.other D m _ _) E t (r.other f.2.2.1 _) (hk.2.setCell _) hq (H.kp (iW.set hk.1 o u)) n (aG s f.1 (cq _ _ _ _)) ⟨f.2.1,f.2.2.2⟩ hs x
def Cq (lo R:Nat) (a:Option Addr) (len cap P d:Nat) (u:Value) (w:World) (e:Ending) (w':World):Prop:=∃v P',e=.returned v∧d9 lo R w' v∧aZ w' R a len cap P'∧P'≤P+d∧w.grownBy w' (some R)∧(pl u→pl v)
theorem BT (J:Nat) (v:Value) (w:World) (h:cL J w v):Calls Tryz.prog 57 #[v] w fun e w'=>∃(q:Int) (b g1 nm c1 G c g3 ns c3 g0 d0 h1 d1 h2 d2:Nat) (M:List ac) (A B C:List an) (S:List Int),e=.returned (.agg #[iT q,sL g1 nm c1,sL G 3 c,sL g3 ns c3])∧ua w.heap.size b w' g1 nm c1 G c g3 ns c3 g0 A.length d0 h1 B.length d1 h2 C.length d2 M A B C S∧(bf q M [A,B,C] S=true∧lN M A B C)∧Bl w w'∧h1≠g0∧h1≠h2:=by
 obtain ⟨q,am,nm,cm,G,c,ak,ns,cs,f,g,Q,n1,d1,O,n2,d2,M,A,B,C,S,rfl,m,htb⟩:=h;have hM:=(aY htb.1).2.2.1;have hS:=ld htb.1;have F:=m.mem.len;have hsl:=m.sn.length;refine (pS 0 q am _ ak nm cm 3 c ns cs M [A,B,C] S w m.treeIn (by omega) (by omega) (by omega) (mT htb.1)).mono ?_;rintro e w' ⟨g1,c1,K,c',g3,c3,rfl,hC,hb,b,f1,I,L⟩;obtain ⟨_,xs,u,n,t⟩:=L;obtain ⟨f,g,a1,a2⟩:=n 0 A rfl;obtain ⟨E,s,b1,b2⟩:=n 1 B rfl;obtain ⟨r,D,d,c2⟩:=n 2 C rfl;have hx:xs=[sL f A.length g,sL E B.length s,sL r C.length D]:=by
  have hl:=u.1;match xs,hl,a1,b1,d with
  | [x,y,z],_,a1,b1,d=>simp at a1 b1 d;rw [a1,b1,d]
 subst hx;have o:b≤w'.heap.size:=by obtain ⟨_,_,N,H,_⟩:=a2;have:=H.lt f rfl;omega
 exact ⟨q,b,g1,nm,c1,K,c',g3,ns,c3,f,g,E,s,r,D,M,A,B,C,S,rfl,⟨hC.mem,eC u f1,a2,b2,c2,hC.sn,hC.slen,hC.swf,I,f1,o⟩,htb,hb,(t 0 1 _ _ _ _ _ _ (by omega) rfl rfl).symm,t 1 2 _ _ _ _ _ _ (by omega) rfl rfl⟩
theorem Ay {n r t:Nat} {s o:World} {xs:List Value} (q1:B.length=n) (q2:∀p ∈ B,(Lit.int .i64 p.2).wf=true) (q3:s.ownsRow b 63 2 (sL h1 n d1) n xs) (q4:∀(i:Nat) (p:an),B[i]?=some p→∃e d,xs[i*2]?=some (sL e p.1.length d)∧xs[i*2+1]?=some (iT p.2)∧af s b e p.1.length d p.1)
 (hE:∀{e d:Nat} {L:List ac},af s b e L.length d L→af o b e L.length d L) (ho:o.ownsRow b 63 2 (sL r (n+1) t) (n+1) (xs++[nZ,iT 0])) (hR:R<b):ym R o (pT r) (n+1) t (B++[([],0)]):=fun w' k=>by
 have h3:=jc ho (by decide) hR k
 have u:=q3.1
 have g:=cQ h3
 refine ⟨by rw [CW,q1];rfl,g.1,g.2,(fun e=>by cases e),?_,?_⟩
 · rintro x e _
   cases e
   exact ⟨(h3.lt r rfl).2,rfl,C3 _⟩
 · rintro x e i hi
   cases e
   rw [CW,q1] at hi
   simp only [DC,Ec] at hi
   by_cases y:i<n
   · have f:i<B.length:=by omega
     obtain ⟨D,d0,a1,a2,a3⟩:=q4 i _ (j' f)
     have hE:=hE a3
     rw [List.getElem_append_left f]
     refine ⟨q2 _ (Dq f),_,_,_,?_,?_,(hE.kp hR k).entsAt,fun _ _ _=>C3 _⟩
     · simp only [C6]
       exact (h3.cellAt _ (by omega)).trans ((C7 (by omega)).trans a1)
     · simp only [C6]
       exact (h3.cellAt _ (by omega)).trans ((C7 (by omega)).trans a2)
   · have m:i=B.length:=by omega
     subst m
     rw [List.getElem_append_right (Cy _)]
     simp only [Eg,List.getElem_cons_zero]
     refine ⟨by decide,none,0,0,?_,?_,xV _ _ _⟩
     · simp only [C6]
       refine (h3.cellAt _ (by omega)).trans ?_
       rw [CU (by omega),show B.length*2 - xs.length=0 by omega]
       rfl
     · simp only [C6]
       refine (h3.cellAt _ (by omega)).trans ?_
       rw [CU (by omega),show B.length*2+1 - xs.length=1 by omega]
       rfl
theorem ua.swap (h:ua base b w g1 nm c1 G c g3 ns c3 g0 n0 d0 h1 n1 d1 h2 n2 d2 M A B C S):ua base b ((w.setCell ⟨G,0,none⟩ (sL h2 n2 d2)).setCell ⟨G,2,none⟩ (sL g0 n0 d0)) g1 nm c1 G c g3 ns c3 h2 n2 d2 h1 n1 d1 g0 n0 d0 M C B A S:=by
 obtain ⟨⟨_,k1⟩,⟨_,t⟩,⟨_,k3⟩,_⟩:=h.kinds;have e:=cq w G 0 (sL h2 n2 d2);have m:=t.setCell (b:=G) (o:=0) (sL h2 n2 d2);have r:=cq (w.setCell ⟨G,0,none⟩ (sL h2 n2 d2)) G 2 (sL g0 n0 d0);have s:∀{g n d:Nat} {Z:List an},bh b w g n d Z→bh b ((w.setCell ⟨G,0,none⟩ (sL h2 n2 d2)).setCell ⟨G,2,none⟩ (sL g0 n0 d0)) g n d Z:=fun u=>(u.grown t (by decide) (by decide) e).grown m (by decide) (by decide) r
 have f:=(h.row.stored 0 (sL h2 n2 d2)).1;have r2:=(f.stored 2 (sL g0 n0 d0)).1;have hm:=dy h.mem h.row (by decide) e;have hs:=co h.sn h.row (by decide) e;exact ⟨dy hm f (by decide) r,r2,s h.rC,s h.rB,s h.rA,co hs f (by decide) r,h.slen,h.swf,h.far,h.top.1,by have:=h.top.2;simpa [World.setCell] using this⟩
theorem ua.putL {f e o:Nat} {D:List an} (h:ua base b w g1 nm c1 G c g3 ns c3 g0 n0 d0 h1 n1 d1 h2 n2 d2 M A B C S) (hp:bh b w f e o D) (k:Nat) (hk:k<3) (r:n0≤e):∃a0 y I a1 m1 k1 a2 m2 k2 F x E,ua base b (w.setCell ⟨G,k,none⟩ (sL f e o)) g1 nm c1 G c g3 ns c3 a0 y I a1 m1 k1 a2 m2 k2 M F x E S∧y≤e∧(lN M A B C→mv D→lN M F x E):=by
 obtain ⟨_,⟨_,J⟩,_⟩:=h.kinds;have s:=cq w G k (sL f e o);have m:∀{g n d:Nat} {Z:List an},bh b w g n d Z→bh b (w.setCell ⟨G,k,none⟩ (sL f e o)) g n d Z:=fun H=>H.grown J (by decide) (by decide) s
 have t:=(h.row.stored k (sL f e o)).1;have hm:=dy h.mem h.row (by decide) s;have hs:=co h.sn h.row (by decide) s;have u:base≤b∧b≤(w.setCell ⟨G,k,none⟩ (sL f e o)).heap.size:=⟨h.top.1,by have:=h.top.2;simpa [World.setCell] using this⟩;rcases (by omega:k=0∨k=1∨k=2) with rfl | rfl | rfl
 · exact ⟨f,e,o,h1,n1,d1,h2,n2,d2,D,B,C,⟨hm,t,m hp,m h.rB,m h.rC,hs,h.slen,h.swf,h.far,u⟩,Cy _,fun k d=>⟨k.1,d,k.2.2⟩⟩
 · exact ⟨g0,n0,d0,f,e,o,h2,n2,d2,A,D,C,⟨hm,t,m h.rA,m hp,m h.rC,hs,h.slen,h.swf,h.far,u⟩,r,fun k d=>⟨k.1,k.2.1,d,k.2.2.2⟩⟩
 · exact ⟨g0,n0,d0,h1,n1,d1,f,e,o,A,B,D,⟨hm,t,m h.rA,m h.rB,m hp,hs,h.slen,h.swf,h.far,u⟩,r,fun k d=>⟨k.1,k.2.1,k.2.2.1,d⟩⟩
theorem uR (R P lo:Nat) (a:Option Addr) (len cap:Nat) (v:Value) (w:World) (h:aZ w R a len cap P) (b2:qM a len R) (hP:P<68000) (hR:R<lo) (bW:lo≤w.heap.size) (hg:cL lo w v) :
 Calls Tryz.prog 76 #[.pointer (pT R),v] w (Cq lo R a len cap P 1000 v w):=by
 obtain ⟨i0,hi,cK,cS,cD⟩:=info_parts Tryz.infoEnt;obtain ⟨j0,hj,cI,cJ,cW⟩:=info_parts Tryz.infoInt;obtain ⟨l0,hl,bF,bC,bD⟩:=info_parts Tryz.infoRun;obtain ⟨q,am,nm,cm,av,nv,cv,ak,ns,cs,rfl⟩:=hg.val;obtain ⟨X,hX⟩:=aH w.heap.size;obtain ⟨W,hW⟩:=aH ((w.alloc (.cells #[iT q,.slice am nm cm,.slice av nv cv,.slice ak ns cs] 31)).alloc (.cells #[iT 0,nZ,nZ,nZ] 31));have kW:Bl w W:=by rw [hW];exact bZ.alloc (by simp) _
 have bx:az W X (iT q) (.slice am nm cm) (.slice av nv cv) (.slice ak ns cs):=by rw [hW,hX];exact (az.new _ _ _ _ _ _).alloc _
 have br:az W (X+1) (iT 0) nZ nZ nZ∧au W (X+1) 31 4:=by
  have:=az.new (w.alloc (.cells #[iT q,.slice am nm cm,.slice av nv cv,.slice ak ns cs] 31)) 31 (iT 0) nZ nZ nZ;rw [Dc] at this;rw [hW,hX];have h2:=cy (w.alloc (.cells #[iT q,.slice am nm cm,.slice av nv cv,.slice ak ns cs] 31)) #[iT 0,nZ,nZ,nZ] 31;rw [Dc] at h2;exact ⟨this,h2⟩
 have kX:au W X 31 4:=by rw [hW,hX];exact (cy w #[iT q,.slice am nm cm,.slice av nv cv,.slice ak ns cs] 31).below bZ
 have S0:CG (kQ lo R a len cap P w W X (X+1) q am nm cm av nv cv ak ns cs):=⟨h.below kW,bx,br.1,⟨kX,br.2⟩,hg.below kW,gK.of kW,bW,Nat.le_of_eq hX.symm,hR,b2,by omega,by omega⟩;have bJ:CG (w.grownBy W (some R)):=aS kW;have cr:CG (nv=3):=by obtain ⟨q',dT,e7,dY,G,c,ea,dz,dI,gA,dA,e1,n1,d1,e2,n2,d2,M,A,B,C,S,e,_,_⟩:=hg;cases e;rfl
 clear h b2 bW hg kW bx br kX;go_enter Tryz.func76,Tryz.ntmps76
 go_upto_region 1 with fail
 rw [← hX,← hW];clear hX hW;go_wp2_with fail
 refine (bX R P a len cap 70 _ S0.o.rd (by omega) (by omega)).mono ?_;rintro e w1 ⟨k,rfl,hk,c7,bk⟩;have dP:0≤k∧k<70:=⟨hk.1,hk.2 (by omega)⟩;have S1:CG (kQ lo R a len cap (P+1) w w1 X (X+1) q am nm cm av nv cv ak ns cs):=S0.o.read bk c7;have bm:CG (w.grownBy w1 (some R)):=ae bJ.o bk;clear S0 bk c7 hk bJ;have x0:=S1.o.bx.all;by_cases ec:k > 6
 · have r0:=S1.o.br.all;go_wp2;refine bodyPost_ret (v:=.agg #[iT q,.slice am nm cm,.slice av nv cv,.slice ak ns cs]) ?_ rfl ⟨_,P+1,rfl,.inl (S1.o.good.four S1.o.kx.2 S1.o.br),?_,by omega,?_,id⟩
   · have e:=(((S1.o.br.set0 (iT q)).set1 (.slice am nm cm)).set2 (.slice av nv cv)).set3 (.slice ak ns cs);simp [results,Tryz.results76,go_sem,e.all]
   · have ht:=S1.o.top;have Q:X+1≠R:=by omega
     have r:∀b U,a=some ⟨b,U,none⟩→0<len→b≠X+1:=fun b U e hl=>by
      rcases ht.2.2.2.1 with h0 | h0
      · omega
      · have:=h0 b U e;omega
     exact (((S1.o.rd.other Q r _ _).other Q r _ _).other Q r _ _).other Q r _ _
   · have I:w.heap.size≤X+1:=by have:=S1.o.top;omega
     exact aG (aG (aG (aG bm.o I (cq _ _ _ _)) I (cq _ _ _ _)) I (cq _ _ _ _)) I (cq _ _ _ _)
 have dS:decide (6<k)=false:=decide_eq_false (by omega);have bU:nv=3:=cr.o;subst bU;go_wp2_with fail
 clear x0;refine (BT lo _ w1 S1.o.good).mono ?_;rintro e w2 ⟨q,b,g1,nm,c1,G,c,g3,ns,c3,g0,d0,h1,d1,h2,d2,M,A,B,C,S,rfl,bR,htb,bn,cx⟩;have S2:CG (kQ lo R a len cap (P+1) w w2 X (X+1) _ am _ cm av 3 cv ak _ cs):=S1.o.below bn;have bL:CG (w.grownBy w2 (some R)):=ae bm.o (aS bn);have bY:CG (ua w1.heap.size b w2 g1 nm c1 G c g3 ns c3 g0 A.length d0 h1 B.length d1 h2 C.length d2 M A B C S):=bR;have aU:CG (bf q M [A,B,C] S=true):=htb.1;have O:CG (lN M A B C):=htb.2;have cf:CG (h1≠g0∧h1≠h2):=cx;have F:CG (w.heap.size≤w1.heap.size∧R<w.heap.size):=⟨S1.o.low.size,by have:=S1.o.top;omega⟩;have x0:=S2.o.bx.all;clear S1 bm bR htb bn cr cx;go_upto_region 5 with fail
 obtain ⟨w3,bb⟩:=aH ((((w2.setCell ⟨X,0,none⟩ (iT q)).setCell ⟨X,1,none⟩ (sL g1 nm c1)).setCell ⟨X,2,none⟩ (sL G 3 c)).setCell ⟨X,3,none⟩ (sL g3 ns c3));have J:CG (lL R a len cap (P+1) w w3 X (X+1) b q g1 nm c1 G c g3 ns c3 g0 A.length d0 h1 B.length d1 h2 C.length d2 M A B C S):=by
  have ht:=S2.o.top;have Q:X≠R:=by omega
  have r:∀b U,a=some ⟨b,U,none⟩→0<len→b≠X:=fun b U e hl=>by
   rcases ht.2.2.2.1 with h0 | h0
   · omega
   · have:=h0 b U e;omega
  have k1:=S2.o.kx.1;have k2:=S2.o.kx.2;have hr:=S2.o.br;have I:w.heap.size≤X:=ht.2.1;rw [bb];have hB:=bY.o.kp (R:=R) (by have:=F.o;omega) (iW.four k1 (iT q) (sL g1 nm c1) (sL G 3 c) (sL g3 ns c3));exact ⟨(((S2.o.rd.other Q r _ _).other Q r _ _).other Q r _ _).other Q r _ _,(((S2.o.bx.set0 _).set1 _).set2 _).set3 _,(((hr.other (by omega) _).other (by omega) _).other (by omega) _).other (by omega) _,⟨(((k1.setCell _).setCell _).setCell _).setCell _,(((k2.setCell _).setCell _).setCell _).setCell _⟩,
   ⟨hB.mem.mono F.o.1,eC hB.row F.o.1,hB.rA,hB.rB,hB.rC,eC hB.sn F.o.1,hB.slen,hB.swf,hB.far,C8 F.o.1 hB.top.1,hB.top.2⟩,aG (aG (aG (aG bL.o I (cq _ _ _ _)) I (cq _ _ _ _)) I (cq _ _ _ _)) I (cq _ _ _ _),ht.2.1,by omega,by omega,F.o.2,ht.2.2.2.1⟩
 rw [← bb];clear bb x0 S2 bL bY;have HQ:CG (0≤q∧q≤100000∧M.length≤60∧S.length≤4∧A.length≤4∧B.length≤8):=by
  have h1:=aY aU.o;have h2:=ld aU.o;have h3:=(dM.1 aU.o).2.2.2.2.2.2.1;have h4:=(cu.1 h3.1).1;have h5:=(cu.1 h3.2.1).1;exact ⟨by omega,by omega,h1.2.2.1,h2,by omega,by omega⟩
 have dj:ns≤99:=by have h1:=HQ.o;have h2:=J.o.bt.slen;omega
 clear aU;go_upto_block 0 with fail
 go_cut [21] (fun _ wz=>Cp lo R a len cap P w wz X (X+1))
 case first =>
  by_cases k0:k=0
  · subst k0;have x0:=J.o.bx.all;have bg:IntKind.i64.wrap (q - 1)=q - 1:=by have:=HQ.o;rw [Dg];unfold wrap64;omega
    go_wp2_with fail
    clear x0 bg;have kc:Bl w3 (w3.alloc (.cells ((([0,-1,100001,q - 1]:List Int).map iT).toArray) 3)):=bZ;refine (dF Wf R (P+1) a len cap w3.heap.size 0 4 4 _ (J.o.rd.below kc) (by omega) (by omega) (by omega) (by have:=J.o.rd.lt;omega) (by simp) (dl w3 3 [0,-1,100001,q - 1] Wf ?_)).mono ?_
    · intro s hs;have:=HQ.o;simp only [Da,Dr,or_false] at hs;rcases hs with rfl | rfl | rfl | rfl <;> exact Dk (by omega)
    rintro e w4 ⟨z,rfl,hz,ad,a9⟩;have n:CG (lL R a len cap (P+1+1) w w4 X (X+1) b q g1 nm c1 G c g3 ns c3 g0 A.length d0 h1 B.length d1 h2 C.length d2 M A B C S):=(J.o.below kc).read a9 ad;clear kc ad a9 J;have x0:=n.o.bx.all;go_wp2;go_meet
    exact m9 0 _ n.o.rd (by omega) (n.o.bx.set0 _) n.o.br n.o.kx hz (n.o.bt.rdT F.o.2) O.o.all n.o.gr n.o.top
  have dt:(k == 0)=false:=by simpa using k0
  by_cases k1:k=1
  · subst k1;have g:CG (∀w',az w' X (iT q) (sL g1 nm c1) (sL G 3 c) (sL g3 ns c3)→(fun w':World=>w'.cell? ⟨X,0,none⟩=some (iT q)∧w'.cell? ⟨X,1,none⟩=some (sL g1 nm c1)∧w'.cell? ⟨X,2,none⟩=some (sL G 3 c)∧w'.cell? ⟨X,3,none⟩=some (sL g3 ns c3)∧X<w'.heap.size) w'):=fun w' b=>⟨b.c0,b.c1,b.c2,b.c3,b.lt⟩
    have n:CG (lL R a len cap (P+1) w w3.drew X (X+1) b q g1 nm c1 G c g3 ns c3 g0 A.length d0 h1 B.length d1 h2 C.length d2 M A B C S):=J.o.below (Below.refl _ w3).drew;clear J;go_upto_region 10 with fail
    refine Bw 7 g n.o.bx fun D=>?_
    generalize w3.drew=wd at D n ⊢;refine sa 0 3 D ?_;refine pz 3 fun K hK=>?_
    go_simp;refine (gP R (P+1) a len cap 1 _ n.o.rd (by omega) (by decide)).mono ?_;rintro e w4 ⟨kk,tt,qq,d,nn,P2,rfl,cg,ad,ds,a9⟩;have S5:CG (lL R a len cap P2 w w4 X (X+1) b q g1 nm c1 G c g3 ns c3 g0 A.length d0 h1 B.length d1 h2 C.length d2 M A B C S):=n.o.read a9 ad;have bS:CG (iX kk tt qq d nn):=cg;clear cg ad a9 n;go_wp2_with fail
    refine hK.o _ _ (g.o _ S5.o.bx) fun D=>?_
    (try go_frame);refine pz 4 fun K hK=>?_
    go_simp;have kc:Bl w4 (w4.alloc (.cells #[.string kk,iT qq,iT d,.string tt,iT nn] 50)):=bZ;have Y:CG (lL R a len cap P2 w (w4.alloc (.cells #[.string kk,iT qq,iT d,.string tt,iT nn] 50)) X (X+1) b q g1 nm c1 G c g3 ns c3 g0 A.length d0 h1 B.length d1 h2 C.length d2 M A B C S):=S5.o.below kc;have x:=pf w4 kk qq d tt nn;clear kc S5;generalize w4.heap.size=gb at x ⊢;generalize w4.alloc (.cells #[.string kk,iT qq,iT d,.string tt,iT nn] 50)=w5 at Y x ⊢;refine hK.o _ _ (g.o _ Y.o.bx) fun D=>?_
    (try go_frame);refine pz 5 fun K hK=>?_
    have bA:=Y.o.bt.mem.len;have aM:=HQ.o;refine fj rfl (.tmp 44) (.tmp 47) 28 rfl w.heap.size 50 i0 _ 5 56 Tryz.underlying28 hi cK cS cD rfl (by decide) g1 nm c1 _ rfl Y.o.bt.mem.owns ⟨gb,0,none⟩ 1 1 [.string kk,iT qq,iT d,.string tt,iT nn] rfl rfl x (by intro u hu;simp at hu;rcases hu with rfl | rfl | rfl | rfl | rfl <;> rfl) (by unfold maxLen;omega) (by omega) Y.o.gr.size ?_;intro g8 c8 H a3 f N;obtain ⟨⟨s1,kE⟩,_⟩:=Y.o.bt.kinds;obtain ⟨y1,y2,y3,y4,y5⟩:=Y.o.wrote f kE (by decide) Y.o.bt.mem.lt.1;have ai:CG (az H X (iT q) (sL g1 nm c1) (sL G 3 c) (sL g3 ns c3)):=y2;have a5:af H w.heap.size g8 (nm+1) c8 (M++[((kk,qq,d,tt,nn):ac)]):=⟨by rw [aJ];exact a3,by rw [CW,bA];rfl,fun l hl=>by
     rcases Dd.1 hl with h | h
     · exact Y.o.bt.mem.ents l h
     · rw [Df] at h;subst h;exact fH bS.o⟩
    have bd:CG (Ad R H (pT g8) (nm+1) c8 (pT G) 3 c (pT g3) ns c3 (M++[((kk,qq,d,tt,nn):ac)]) [A,B,C] S):=by
     have t:=Y.o.bt;have E:R<b:=l' F.o.2 t.top.1;exact je a5 (co t.row t.mem.owns (by decide) f) ((t.rA.low t.far f).lvQ E) ((t.rB.low t.far f).lvQ E) ((t.rC.low t.far f).lvQ E) (co t.sn t.mem.owns (by decide) f) t.slen t.swf F.o.2
    have HY:CG (aZ H R a len cap P2∧az H (X+1) (iT 0) nZ nZ nZ∧(au H X 31 4∧au H (X+1) 31 4)∧w.grownBy H (some R)):=⟨y1,y3,y4,y5⟩;have ax:CG _:=Y.o.top;clear a3 f N kE y1 y2 y3 y4 y5 a5 Y x bA aM;refine hK.o _ _ (g.o _ ai.o) fun D=>?_
    (try go_frame);refine sa 6 1 D ?_;refine Bh 7 fun K hK=>?_
    have x0:=ai.o.all;go_simp;refine hK.o _ _ ?_;clear hK K;(try go_frame);refine dZ ?_;clear x0 D g;go_wp2;go_meet
    exact m9 1 _ HY.o.1 (by omega) (ai.o.set1 _) HY.o.2.1 HY.o.2.2.1 (Dk (by have:=HQ.o;omega)) bd.o (lN.all ⟨O.o.1.app (fun l hl=>by rw [Df] at hl;subst hl;exact bS.o.1.2.2),O.o.2⟩) HY.o.2.2.2 ax.o
  have eb:(k == 1)=false:=by simpa using k1
  by_cases k2:k=2
  · subst k2;have x0:=J.o.bx.all;have ef:(2:Int)≤((3:Nat):Int):=by omega
    have dG:3≤c:=by have:=(cQ J.o.bt.row).1;omega
    have dr:(2:Int)≤(c:Int):=by omega
    have e6:2≤c:=by omega
    go_wp2;go_meet
    have t:=J.o.bt;have E:R<b:=l' F.o.2 t.top.1;exact m9 2 _ J.o.rd (by omega) (J.o.bx.set2 _) J.o.br J.o.kx (Dk (by have:=HQ.o;omega)) (As t.mem t.row (t.rA.lvQ E) (t.rB.lvQ E) (t.rC.lvQ E) t.sn t.slen t.swf F.o.2) ⟨O.o.1,fun Z hZ=>O.o.all.2 Z (by simp at hZ ⊢;rcases hZ with h | h <;> simp [h])⟩ J.o.gr J.o.top
  have e0:(k == 2)=false:=by simpa using k2
  by_cases k3:k=3
  · subst k3;have g:CG (∀w',az w' X (iT q) (sL g1 nm c1) (sL G 3 c) (sL g3 ns c3)→(fun w':World=>w'.cell? ⟨X,0,none⟩=some (iT q)∧w'.cell? ⟨X,1,none⟩=some (sL g1 nm c1)∧w'.cell? ⟨X,2,none⟩=some (sL G 3 c)∧w'.cell? ⟨X,3,none⟩=some (sL g3 ns c3)∧X<w'.heap.size) w'):=fun w' b=>⟨b.c0,b.c1,b.c2,b.c3,b.lt⟩
    have n:CG (lL R a len cap (P+1) w w3.drew X (X+1) b q g1 nm c1 G c g3 ns c3 g0 A.length d0 h1 B.length d1 h2 C.length d2 M A B C S):=J.o.below (Below.refl _ w3).drew;have bg:IntKind.i64.wrap (q+1)=q+1:=by have:=HQ.o;rw [Dg];unfold wrap64;omega
    clear J;go_upto_region 14 with fail
    refine Bw 13 g n.o.bx fun D=>?_
    generalize w3.drew=wd at D n ⊢;refine sa 0 8 D ?_;refine pz 8 fun K hK=>?_
    go_simp;have kc:Bl wd (wd.alloc (.cells ((([0,q+1,-1,q]:List Int).map iT).toArray) 3)):=bZ;have S5:CG (lL R a len cap (P+1) w (wd.alloc (.cells ((([0,q+1,-1,q]:List Int).map iT).toArray) 3)) X (X+1) b q g1 nm c1 G c g3 ns c3 g0 A.length d0 h1 B.length d1 h2 C.length d2 M A B C S):=n.o.below kc;have aF:=dl wd 3 [0,q+1,-1,q] Wf (by
     intro s hs;have:=HQ.o;simp only [Da,Dr,or_false] at hs;rcases hs with rfl | rfl | rfl | rfl <;> exact Dk (by omega))
    have bl:wd.heap.size≠R:=by have:=n.o.rd.lt;omega
    have ay:wd.heap.size<(wd.alloc (.cells ((([0,q+1,-1,q]:List Int).map iT).toArray) 3)).heap.size:=by simp
    clear kc n bg;simp only [Ep,Ev] at aF ay S5;generalize wd.heap.size=gn at aF bl ay ⊢;generalize wd.alloc (.cells [iT 0,iT (q+1),iT (-1),iT q].toArray 3)=w4 at aF ay S5 ⊢;refine hK.o _ _ (g.o _ S5.o.bx) fun D=>?_
    (try go_frame);refine pz 9 fun K hK=>?_
    go_simp;refine (dF Wf R (P+1) a len cap gn 0 4 4 _ S5.o.rd (by omega) (by omega) (by omega) bl ay aF).mono ?_;rintro e w5 ⟨z,rfl,hz,aw,aC⟩;have Y:CG (lL R a len cap (P+1+1) w w5 X (X+1) b q g1 nm c1 G c g3 ns c3 g0 A.length d0 h1 B.length d1 h2 C.length d2 M A B C S):=S5.o.read aC aw;have HZ:CG (Wf z):=hz;clear hz aw aC S5 aF bl ay;go_wp2_with fail
    refine hK.o _ _ (g.o _ Y.o.bx) fun D=>?_
    (try go_frame);refine pz 10 fun K hK=>?_
    go_simp;have kc:Bl w5 (w5.alloc (.cells #[iT z] 3)):=bZ;have S7:CG (lL R a len cap (P+1+1) w (w5.alloc (.cells #[iT z] 3)) X (X+1) b q g1 nm c1 G c g3 ns c3 g0 A.length d0 h1 B.length d1 h2 C.length d2 M A B C S):=Y.o.below kc;have x:=dV w5 (iT z) 3;clear kc Y;generalize w5.heap.size=gb at x ⊢;generalize w5.alloc (.cells #[iT z] 3)=w6 at S7 x ⊢;refine hK.o _ _ (g.o _ S7.o.bx) fun D=>?_
    (try go_frame);refine pz 11 fun K hK=>?_
    have hsl:=S7.o.bt.slen;have aM:=HQ.o;refine fj rfl (.tmp 59) (.tmp 68) 24 rfl w.heap.size 3 j0 _ 1 8 Tryz.underlying24 hj cI cJ cW rfl (by decide) g3 ns c3 _ rfl S7.o.bt.sn ⟨gb,0,none⟩ 1 1 [iT z] rfl rfl x (by intro u hu;simp at hu;subst hu;rfl) (by unfold maxLen;omega) (by omega) S7.o.gr.size ?_;intro g8 c8 H a3 f N;obtain ⟨_,_,⟨s1,kI⟩,_⟩:=S7.o.bt.kinds;obtain ⟨y1,y2,y3,y4,y5⟩:=S7.o.wrote f kI (by decide) (S7.o.bt.sn.lt g3 rfl).1;have ai:CG (az H X (iT q) (sL g1 nm c1) (sL G 3 c) (sL g3 ns c3)):=y2;have bd:CG (Ad R H (pT g1) nm c1 (pT G) 3 c (pT g8) (ns+1) c8 M [A,B,C] (S++[z])):=by
     have t:=S7.o.bt;have E:R<b:=l' F.o.2 t.top.1;exact je (dy t.mem t.sn (by decide) f) (co t.row t.sn (by decide) f) ((t.rA.grown kI (by decide) (by decide) f).lvQ E) ((t.rB.grown kI (by decide) (by decide) f).lvQ E) ((t.rC.grown kI (by decide) (by decide) f).lvQ E) (by rw [EJ];exact a3) (by rw [CW,hsl];rfl) (fun y hy=>by
      rcases Dd.1 hy with h | h
      · exact t.swf y h
      · rw [Df] at h;subst h;exact HZ.o) F.o.2
    have HY:CG (aZ H R a len cap (P+1+1)∧az H (X+1) (iT 0) nZ nZ nZ∧(au H X 31 4∧au H (X+1) 31 4)∧w.grownBy H (some R)):=⟨y1,y3,y4,y5⟩;have ax:CG _:=S7.o.top;clear a3 f N kI y1 y2 y3 y4 y5 S7 x hsl aM;refine hK.o _ _ (g.o _ ai.o) fun D=>?_
    (try go_frame);refine sa 12 1 D ?_;refine Bh 13 fun K hK=>?_
    have x0:=ai.o.all;go_simp;refine hK.o _ _ ?_;clear hK K;(try go_frame);refine dZ ?_;clear x0 D g;go_wp2;go_meet
    exact m9 3 _ HY.o.1 (by omega) (ai.o.set3 _) HY.o.2.1 HY.o.2.2.1 (Dk (by have:=HQ.o;omega)) bd.o O.o.all HY.o.2.2.2 ax.o
  have e3:(k == 3)=false:=by simpa using k3
  by_cases k4:k=4
  · subst k4;have x0:=J.o.bx.all;have y0:=J.o.bt.row.cellAt 0 (by omega);have y1:=J.o.bt.row.cellAt 1 (by omega);have y2:=J.o.bt.row.cellAt 2 (by omega);have yf:=J.o.bt.row.frozenAt;have yz:=(J.o.bt.row.lt G rfl).2;simp only [Ex,Ei] at y0 y1 y2;have bi:X≠G:=fun e=>by obtain ⟨_,⟨s1,kG⟩,_⟩:=J.o.bt.kinds;rw [← e] at kG;exact absurd (J.o.kx.1.kind kG) (by decide)
    have bq:G≠X:=fun e=>bi e.symm
    have g:CG (∀w':World,(w'.cell? ⟨X,2,none⟩=some (sL G 3 c)∧X<w'.heap.size∧w'.cell? ⟨G,2,none⟩=some (sL h2 C.length d2)∧G<w'.heap.size)→(fun w':World=>w'.cell? ⟨X,2,none⟩=some (sL G 3 c)∧X<w'.heap.size∧w'.cell? ⟨G,2,none⟩=some (sL h2 C.length d2)∧G<w'.heap.size) w'):=fun _ h=>h
    go_upto_region 17 with fail
    have n:CG (lL R a len cap (P+1) w w3.drew X (X+1) b q g1 nm c1 G c g3 ns c3 g0 A.length d0 h1 B.length d1 h2 C.length d2 M A B C S):=J.o.below (Below.refl _ w3).drew;clear J x0 y0 y1 y2 yf yz;refine ez g ⟨n.o.bx.c2,n.o.bx.lt,n.o.bt.row.cellAt 2 (by omega),(n.o.bt.row.lt G rfl).2⟩ fun D=>?_
    generalize w3.drew=wd at D n ⊢;refine aP 0 7 D ?_;refine aR 7 fun K hK=>?_
    have y0:=n.o.bt.row.cellAt 0 (by omega);have y1:=n.o.bt.row.cellAt 1 (by omega);have y2:=n.o.bt.row.cellAt 2 (by omega);have yf:=n.o.bt.row.frozenAt;have yz:=(n.o.bt.row.lt G rfl).2;simp only [Ex,Ei] at y0 y1 y2;go_simp;refine hK.o _ _ ?_ (fun D=>?_)
    · exact ⟨(n.o.bx.other bq _).c2,(n.o.bx.other (o:=0) bq (sL h2 C.length d2)).lt,by rw [u' _ _ _ _ (by simp)];exact y2,by simpa [World.setCell] using yz⟩
    clear hK K y0 y1 y2;(try go_frame);refine dN ?_;clear D g;have xb:=n.o.bx.other (b':=G) (o:=0) bq (sL h2 C.length d2);have x2:=xb.c2;have xz:=xb.lt;have aV:=(n.o.bt.row.stored 0 (sL h2 C.length d2)).1;have y2:=aV.cellAt 2 (by omega);have yf:=aV.frozenAt;have yz:=(aV.lt G rfl).2;clear aV xb;go_wp2;go_meet
    have t:=n.o.bt;obtain ⟨_,⟨s1,kG⟩,_⟩:=t.kinds;have cO:=(t.row.lt G rfl).1;have s2:=cq wd G 0 (sL h2 C.length d2);have s3:=cq (wd.setCell ⟨G,0,none⟩ (sL h2 C.length d2)) G 2 (sL g0 A.length d0);have hg:wd.grownBy _ (some G):=ae s2 s3;obtain ⟨z1,z2,z3,z4,z5⟩:=n.o.wrote hg kG (by decide) cO;exact nd z1 (by omega) z2 z3 z4.2 (Dk (by have:=HQ.o;omega)) (t.swap.rdT F.o.2) (lN.all ⟨O.o.1,O.o.2.2.2,O.o.2.2.1,O.o.2.1⟩) z5 ⟨n.o.top.2.1,n.o.top.2.2.2⟩
  have dL:(k == 4)=false:=by simpa using k4
  by_cases k5:k=5
  · subst k5;go_wp2;go_loopw [7] (fun iv wr=>∃(i P' g0 n0 d0 h1 n1 d1 h2 n2 d2:Nat) (A B C:List an),iv=iT (i:Int)∧i≤5∧P'≤P+1+160*i∧n0≤4+i∧lL R a len cap P' w wr X (X+1) b q g1 nm c1 G c g3 ns c3 g0 n0 d0 h1 n1 d1 h2 n2 d2 M A B C S∧lN M A B C) (fun iv _=>(5 - (intOf iv).toNat))
    case atStart=>exact ⟨0,P+1,g0,A.length,d0,h1,B.length,d1,h2,C.length,d2,A,B,C,rfl,by omega,by omega,by have:=HQ.o;omega,J.o,O.o⟩
    case round =>
     clear J;obtain ⟨i,P',g0,n0,d0,h1,n1,d1,h2,n2,d2,A,B,C,rfl,dC,bQ,dE,hS,cc⟩:=hrel;have bG:CG (lN M A B C):=cc;clear cc;have n:CG (lL R a len cap P' w wr X (X+1) b q g1 nm c1 G c g3 ns c3 g0 n0 d0 h1 n1 d1 h2 n2 d2 M A B C S):=hS;clear hS;by_cases e9:i<5
     · have cl:(i:Int)<5:=by omega
       have dO:IntKind.i64.wrap ((i:Int)+1)=(i:Int)+1:=by rw [Dg];unfold wrap64;omega
       have g:CG (∀w',(∃P2,lL R a len cap P2 w w' X (X+1) b q g1 nm c1 G c g3 ns c3 g0 n0 d0 h1 n1 d1 h2 n2 d2 M A B C S)→(fun w':World=>w'.cell? ⟨X,0,none⟩=some (iT q)∧w'.cell? ⟨X,1,none⟩=some (sL g1 nm c1)∧w'.cell? ⟨X,2,none⟩=some (sL G 3 c)∧w'.cell? ⟨X,3,none⟩=some (sL g3 ns c3)∧w'.cell? ⟨G,0,none⟩=some (sL g0 n0 d0)∧X<w'.heap.size∧G<w'.heap.size) w'):=fun w' hb=>by
        obtain ⟨P2,hb⟩:=hb;exact ⟨hb.bx.c0,hb.bx.c1,hb.bx.c2,hb.bx.c3,by have:=hb.bt.row.cellAt 0 (by omega);simpa using this,hb.bx.lt,(hb.bt.row.lt G rfl).2⟩
       have S5:CG (lL R a len cap P' w wr.drew X (X+1) b q g1 nm c1 G c g3 ns c3 g0 n0 d0 h1 n1 d1 h2 n2 d2 M A B C S):=n.o.below (Below.refl _ wr).drew;clear n;go_upto_region 23 with fail
       refine Bw 13 g ⟨P',S5.o⟩ fun D=>?_
       generalize wr.drew=wd at D S5 ⊢;refine sa 0 3 D ?_;refine sa 4 5 D ?_;refine pz 3 fun K hK=>?_
       go_simp;refine (bX R P' a len cap 3 _ S5.o.rd (by omega) (by omega)).mono ?_;rintro e w4 ⟨kp,rfl,hk,ad,a9⟩;have Y:CG (lL R a len cap (P'+1) w w4 X (X+1) b q g1 nm c1 G c g3 ns c3 g0 n0 d0 h1 n1 d1 h2 n2 d2 M A B C S):=S5.o.read a9 ad;have cb:0≤kp∧kp<3:=⟨hk.1,hk.2 (by omega)⟩;obtain ⟨kn,rfl⟩:=DL cb.1;have cT:kn<3:=by omega
       have dm:(kn:Int)<3:=by omega
       have d6:(kn:Int)<((3:Nat):Int):=by omega
       clear hk cb ad a9 S5;go_wp2_with fail
       refine hK.o _ _ (g.o _ ⟨_,Y.o⟩) fun D=>?_
       (try go_frame);refine pz 9 fun K hK=>?_
       go_simp;refine (uT R (P'+1) a len cap _ Y.o.rd Y.o.top.2.2.2.2 (by omega)).mono ?_;rintro e w5 ⟨ge,ne,ce,P3,m,L,rfl,hO,bz,bT,bE,aw,dU,aC⟩;have S7:CG (lL R a len cap P3 w w5 X (X+1) b q g1 nm c1 G c g3 ns c3 g0 n0 d0 h1 n1 d1 h2 n2 d2 M A B C S):=Y.o.read aC aw;have HO:CG (af w5 b ge ne ce L):=hO.mono Y.o.bt.top.2;have aT:CG ((Lit.int .i64 m).wf=true):=bE;have cw:CG (nh L):=fun e he=>(bT e he).1.2.2
       clear hO bT bE aw aC Y bz;go_wp2_with fail
       refine hK.o _ _ (g.o _ ⟨_,S7.o⟩) fun D=>?_
       (try go_frame);refine pz 10 fun K hK=>?_
       go_simp;have kc:Bl w5 (w5.alloc (.cells #[sL ge ne ce,iT m] 63)):=bZ;have S8:CG (lL R a len cap P3 w (w5.alloc (.cells #[sL ge ne ce,iT m] 63)) X (X+1) b q g1 nm c1 G c g3 ns c3 g0 n0 d0 h1 n1 d1 h2 n2 d2 M A B C S):=S7.o.below kc;have a5:CG (af (w5.alloc (.cells #[sL ge ne ce,iT m] 63)) b ge ne ce L):=HO.o.below kc;have x:=bH w5 (sL ge ne ce) (iT m) 63;clear kc S7 HO;generalize w5.heap.size=gb at x ⊢;generalize w5.alloc (.cells #[sL ge ne ce,iT m] 63)=w6 at S8 a5 x ⊢;refine hK.o _ _ (g.o _ ⟨_,S8.o⟩) fun D=>?_
       (try go_frame);refine pz 11 fun K hK=>?_
       have cR:=S8.o.bt.rA;obtain ⟨q1,q2,eg,q3,q4⟩:=cR;refine fj rfl (.tmp 101) (.tmp 104) 61 rfl b 63 l0 _ 2 32 Tryz.underlying61 hl bF bC bD rfl (by decide) g0 n0 d0 _ rfl q3 ⟨gb,0,none⟩ 1 1 [sL ge ne ce,iT m] rfl rfl x (by intro u hu;simp at hu;rcases hu with rfl | rfl <;> rfl) (by unfold maxLen;omega) (by omega) S8.o.bt.top.2 ?_;intro g8 c8 H a3 f N;have cN:=a5.o.len;subst cN;have hD:=gk q1 q2 q3 (fun i p hp=>q4 i p hp) a5.o aT.o f a3;obtain ⟨s1,kA⟩:=aO q3;have t:=S8.o.bt;obtain ⟨A',ch,nA⟩:=t.rA.beside t.rA f N a5.o aT.o;obtain ⟨B',bN,nB⟩:=t.rB.beside t.rA f N a5.o aT.o;obtain ⟨C',ci,nC⟩:=t.rC.beside t.rA f N a5.o aT.o;obtain ⟨z1,z2,z3,z4,z5⟩:=S8.o.wrote f kA (by decide) (C8 t.top.1 (q3.lt g0 rfl).1);have S9:CG (lL R a len cap P3 w H X (X+1) b q g1 nm c1 G c g3 ns c3 g0 n0 d0 h1 n1 d1 h2 n2 d2 M A' B' C' S):=⟨z1,z2,z3,z4,⟨dy t.mem q3 (by decide) f,co t.row q3 (by decide) f,ch,bN,ci,co t.sn q3 (by decide) f,t.slen,t.swf,t.far,t.top.1,C8 t.top.2 f.size⟩,z5,S8.o.top⟩;have ct:CG (lN M A' B' C'∧mv (A++[(L,m)])):=by
        have hx:∀{Z Z':List an},mv Z→(∀p ∈ Z',p ∈ Z∨p=(L,m))→mv Z':=fun h k p hp=>(k p hp).elim (h p) (fun e=>by rw [e];exact cw.o)
        have k:=bG.o;exact ⟨⟨k.1,hx k.2.1 nA,hx k.2.2.1 nB,hx k.2.2.2 nC⟩,k.2.1.app (mv.one cw.o)⟩
       clear nA nB nC;have HD:CG (bh b H g8 (n0+1) c8 (A++[(L,m)])):=hD;clear q1 q2 q3 q4 a3 f N hD kA t ch bN ci z1 z2 z3 z4 z5 S8 a5 x;refine hK.o _ _ (by have hb:=S9.o;exact ⟨hb.bx.c0,hb.bx.c1,hb.bx.c2,hb.bx.c3,by have:=hb.bt.row.cellAt 0 (by omega);simpa using this,hb.bx.lt,(hb.bt.row.lt G rfl).2⟩) fun D=>?_
       (try go_frame);refine sa 12 1 D ?_;refine Bh 13 fun K hK=>?_
       have yc:∃v,H.cell? ⟨G,kn,none⟩=some v:=by
        rcases (by omega:kn=0∨kn=1∨kn=2) with rfl | rfl | rfl
        · exact ⟨_,S9.o.bt.row.cellAt 0 (by omega)⟩
        · exact ⟨_,S9.o.bt.row.cellAt 1 (by omega)⟩
        · exact ⟨_,S9.o.bt.row.cellAt 2 (by omega)⟩
       obtain ⟨yv,yc⟩:=yc;have yf:=S9.o.bt.row.frozenAt;have yz:=(S9.o.bt.row.lt G rfl).2;go_simp;refine hK.o _ _ ?_;clear hK K yc yf yz;(try go_frame);refine dZ ?_;clear D g;go_wp2;go_roundw
       case rel =>
        obtain ⟨a0,m0,cY,a1,m1,cF,a2,m2,cG,A2,B2,C2,hb,I,d4⟩:=S9.o.bt.putL HD.o kn cT (by omega);obtain ⟨_,⟨s1,kG⟩,_⟩:=S9.o.bt.kinds;obtain ⟨z1,z2,z3,z4,z5⟩:=S9.o.wrote (cq H G kn (sL g8 (n0+1) c8)) kG (by decide) (S9.o.bt.row.lt G rfl).1;exact ⟨i+1,P3,a0,m0,cY,a1,m1,cF,a2,m2,cG,A2,B2,C2,by rw [show ((i+1:Nat):Int)=(i:Int)+1 by omega],by omega,by omega,by omega,⟨z1,z2,z3,z4,hb,z5,S9.o.top⟩,d4 ct.o.1 ct.o.2⟩
       case measure=>simp [intOf];omega
     · have cl:¬(i:Int)<5:=by omega
       go_wp2_with fail
       go_meet
       have s:=n.o;exact nd s.rd (by omega) s.bx s.br s.kx.2 (Dk (by have:=HQ.o;omega)) (s.bt.rdT F.o.2) bG.o.all s.gr ⟨s.top.2.1,s.top.2.2.2⟩
  have dX:(k == 5)=false:=by simpa using k5
  have g:CG (∀w',(∃P2,lL R a len cap P2 w w' X (X+1) b q g1 nm c1 G c g3 ns c3 g0 A.length d0 h1 B.length d1 h2 C.length d2 M A B C S)→(fun w':World=>w'.cell? ⟨X,0,none⟩=some (iT q)∧w'.cell? ⟨X,1,none⟩=some (sL g1 nm c1)∧w'.cell? ⟨X,2,none⟩=some (sL G 3 c)∧w'.cell? ⟨X,3,none⟩=some (sL g3 ns c3)∧w'.cell? ⟨G,1,none⟩=some (sL h1 B.length d1)∧X<w'.heap.size∧G<w'.heap.size) w'):=fun w' hb=>by
   obtain ⟨P2,hb⟩:=hb;exact ⟨hb.bx.c0,hb.bx.c1,hb.bx.c2,hb.bx.c3,by have:=hb.bt.row.cellAt 1 (by omega);simpa using this,hb.bx.lt,(hb.bt.row.lt G rfl).2⟩
  have n:CG (lL R a len cap (P+1) w w3.drew X (X+1) b q g1 nm c1 G c g3 ns c3 g0 A.length d0 h1 B.length d1 h2 C.length d2 M A B C S):=J.o.below (Below.refl _ w3).drew;clear J;go_upto_region 6 with fail
  refine Bw 10 g ⟨_,n.o⟩ fun D=>?_
  generalize w3.drew=wd at D n ⊢;refine sa 0 7 D ?_;refine pz 7 fun K hK=>?_
  go_simp;have kc:Bl wd (wd.alloc (.cells #[nZ,iT 0] 63)):=bZ;have S8:CG (lL R a len cap (P+1) w (wd.alloc (.cells #[nZ,iT 0] 63)) X (X+1) b q g1 nm c1 G c g3 ns c3 g0 A.length d0 h1 B.length d1 h2 C.length d2 M A B C S):=n.o.below kc;have x:=bH wd nZ (iT 0) 63;clear kc n;generalize wd.heap.size=gb at x ⊢;generalize wd.alloc (.cells #[nZ,iT 0] 63)=w6 at S8 x ⊢;refine hK.o _ _ (g.o _ ⟨_,S8.o⟩) fun D=>?_
  (try go_frame);refine pz 8 fun K hK=>?_
  have cU:=S8.o.bt.rB;obtain ⟨q1,q2,dw,q3,q4⟩:=cU;have aM:=HQ.o;refine fj rfl (.tmp 27) (.tmp 29) 61 rfl b 63 l0 _ 2 32 Tryz.underlying61 hl bF bC bD rfl (by decide) h1 B.length d1 _ rfl q3 ⟨gb,0,none⟩ 1 1 [nZ,iT 0] rfl rfl x (by intro u hu;simp at hu;rcases hu with rfl | rfl <;> rfl) (by unfold maxLen;omega) (by omega) S8.o.bt.top.2 ?_;intro g8 c8 H a3 f N;obtain ⟨s1,kB⟩:=aO q3;have t:=S8.o.bt;have E:R<b:=l' F.o.2 t.top.1;have cV:CG (R<b):=E;obtain ⟨z1,z2,z3,z4,z5⟩:=S8.o.wrote f kB (by decide) (C8 t.top.1 (q3.lt h1 rfl).1);have HM:CG (af H w.heap.size g1 nm c1 M):=dy t.mem q3 (by decide) f;have T:CG (H.ownsRow w.heap.size 61 1 (sL G 3 c) 3 [sL g0 A.length d0,sL h1 B.length d1,sL h2 C.length d2]):=co t.row q3 (by decide) f;have d3:CG (∀v,ym R (H.setCell ⟨G,1,none⟩ v) (pT g8) (B.length+1) c8 (B++[([],0)])):=fun v=>Ay q1 q2 q3 q4 (fun {e d L} hO=>dy (hO.grown f (fun e'=>by
   obtain ⟨s4,k4⟩:=aO hO.owns;have cH:e=h1:=CZ e';rw [cH] at k4;exact absurd (kB.kind k4) (by decide))) T.o (by decide) (cq _ _ _ _)) (co a3 T.o (by decide) (cq _ _ _ _)) E
  have c4:CG (bh b H g0 A.length d0 A∧bh b H h2 C.length d2 C):=⟨t.rA.grownR kB (fun e=>cf.o.1 e.symm) f,t.rC.grownR kB (fun e=>cf.o.2 e.symm) f⟩;have bo:CG (H.ownsRow w.heap.size 3 1 (sL g3 ns c3) ns (S.map iT)∧S.length=ns∧∀z ∈ S,(Lit.int .i64 z).wf=true):=⟨co t.sn q3 (by decide) f,t.slen,t.swf⟩;have bI:CG (az H X (iT q) (sL g1 nm c1) (sL G 3 c) (sL g3 ns c3)):=z2;have HZ:CG (aZ H R a len cap (P+1)∧az H (X+1) (iT 0) nZ nZ nZ∧(au H X 31 4∧au H (X+1) 31 4)∧w.grownBy H (some R)):=⟨z1,z3,z4,z5⟩;have ax:CG (w.heap.size≤X∧w.heap.size≤X+1∧X≠X+1∧R<w.heap.size∧qM a len R):=S8.o.top;clear q1 q2 q3 q4 a3 f N kB t z1 z2 z3 z4 z5 S8 x E;refine hK.o _ _ (by have hb:=bI.o;exact ⟨hb.c0,hb.c1,hb.c2,hb.c3,by have:=T.o.cellAt 1 (by omega);simpa using this,hb.lt,(T.o.lt G rfl).2⟩) fun D=>?_
  (try go_frame);refine sa 9 1 D ?_;refine Bh 10 fun K hK=>?_
  have y1:=T.o.cellAt 1 (by omega);have yf:=T.o.frozenAt;have yz:=(T.o.lt G rfl).2;simp only [Ex,Ei] at y1;go_simp;refine hK.o _ _ ?_;clear hK K y1 yf yz;(try go_frame);refine dZ ?_;clear D g;go_wp2;go_meet
  obtain ⟨s1,kG⟩:=aO T.o;have sg:=cq H G 1 (sL g8 (B.length+1) c8);have bi:X≠G:=fun e=>by rw [← e] at kG;exact absurd (HZ.o.2.2.1.1.kind kG) (by decide)
  have b6:X+1≠G:=fun e=>by rw [← e] at kG;exact absurd (HZ.o.2.2.1.2.kind kG) (by decide)
  have I:=(T.o.lt G rfl).1;have hT:=ax.o;refine nd (HZ.o.1.grown sg hT.2.2.2.2 (fun k e=>by cases e;omega)) (by omega) (bI.o.grownB sg bi) (HZ.o.2.1.grownB sg b6) (HZ.o.2.2.1.2.grown sg b6) (Dk (by have:=HQ.o;omega)) (M:=M) (V:=[A,B++[([],0)],C]) (S:=S) ?_ (lN.all ⟨O.o.1,O.o.2.1,O.o.2.2.1.app (mv.one rh),O.o.2.2.2⟩) (aG HZ.o.2.2.2 I sg) ⟨hT.2.1,hT.2.2.2⟩;have E:=cV.o;exact je (dy HM.o T.o (by decide) sg) (T.o.stored 1 (sL g8 (B.length+1) c8)).1 ((c4.o.1.grown kG (by decide) (by decide) sg).lvQ E) (d3.o _) ((c4.o.2.grown kG (by decide) (by decide) sg).lvQ E) (co bo.o.1 T.o (by decide) sg) bo.o.2.1 bo.o.2.2 F.o.2
 case rest =>
  obtain ⟨P',q,am,nm,cm,av,nv,cv,ak,ns,cs,bV,bQ,cn,bp,cp,b5,cd,ck,bB⟩:=hcut;have cZ:CG (pl (.agg #[iT q,.slice am nm cm,.slice av nv cv,.slice ak ns cs])):=bB;have HA:CG (d9 lo R wc (.agg #[iT q,.slice am nm cm,.slice av nv cv,.slice ak ns cs])):=b5;have c9:CG (az wc (X+1) (iT 0) nZ nZ nZ):=bp;have HY:CG (aZ wc R a len cap P'∧au wc (X+1) 31 4∧w.grownBy wc (some R)∧w.heap.size≤X+1∧R<w.heap.size∧qM a len R):=⟨bV,cp,cd,ck⟩;have x0:=cn.all;have r0:=bp.all;clear bV cn bp cp b5 cd ck bB J;go_wp2;refine bodyPost_ret (v:=.agg #[iT q,.slice am nm cm,.slice av nv cv,.slice ak ns cs]) ?_ rfl ⟨_,P',rfl,HA.o.four HY.o.2.1 c9.o,?_,bQ,?_,fun _=>cZ.o⟩
  · have e:=(((c9.o.set0 (iT q)).set1 (.slice am nm cm)).set2 (.slice av nv cv)).set3 (.slice ak ns cs);simp [results,Tryz.results76,go_sem,e.all]
  · have ht:=HY.o.2.2.2;have Q:X+1≠R:=by omega
    have r:∀b U,a=some ⟨b,U,none⟩→0<len→b≠X+1:=fun b U e hl=>by
     rcases ht.2.2 with h0 | h0
     · omega
     · have:=h0 b U e;omega
    exact (((HY.o.1.other Q r _ _).other Q r _ _).other Q r _ _).other Q r _ _
  · have I:w.heap.size≤X+1:=HY.o.2.2.2.1;exact aG (aG (aG (aG HY.o.2.2.1 I (cq _ _ _ _)) I (cq _ _ _ _)) I (cq _ _ _ _)) I (cq _ _ _ _)
end Go.Proofs.YtpobkmjicbobdaaGreat
