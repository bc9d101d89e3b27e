/- Walks. -/
import Derived.Test.YtpobkmjicbobdaaGreatBW29
namespace Go.Proofs.YtpobkmjicbobdaaGreat
set_option maxRecDepth 100000
set_option maxHeartbeats 40000000
open Go.RowKit
variable {A B C:List af} {G P P' R X Z b base c c1 c3 cap cm cs cv d0 d1 d2 g0 g1 g3 h1 h2 len n0 n1 n2 nm ns nv:Nat} {M:List ac} {S:List Int} {V:List (List af)} {a ak am av:Option Addr} {q:Int} {w wi wj:World}
structure xF (base b:Nat) (w:World) (g1 nm c1 G c g3 ns c3 g0 n0 d0 h1 n1 d1 h2 n2 d2:Nat) (M:List ac) (A B C:List af) (S:List Int):Prop where
 mem:ag w base g1 nm c1 M
 row:w.ownsRow base 61 1 (sL G 3 c) 3 [sL g0 n0 d0,sL h1 n1 d1,sL h2 n2 d2]
 rA:bo b w g0 n0 d0 A
 rB:bo b w h1 n1 d1 B
 rC:bo b w h2 n2 d2 C
 sn:w.ownsRow base 3 1 (sL g3 ns c3) ns (S.map iT)
 slen:S.length=ns
 swf:∀z ∈ S,(Lit.int .i64 z).wf=true
 far:g1<b
 top:base≤b∧b≤w.heap.size
theorem xF.kp {w':World} (h:xF base b w g1 nm c1 G c g3 ns c3 g0 n0 d0 h1 n1 d1 h2 n2 d2 M A B C S) (hR:R<base) (k:jW R w w'):xF base b w' g1 nm c1 G c g3 ns c3 g0 n0 d0 h1 n1 d1 h2 n2 d2 M A B C S :=
 have hb:=E' hR h.top.1
 ⟨h.mem.kp hR k,ku h.row (by decide) hR k,h.rA.kp hb k,h.rB.kp hb k,h.rC.kp hb k,ku h.sn (by decide) hR k,h.slen,h.swf,h.far,h.top.1,GU h.top.2 k.1⟩
theorem xF.rdT (h:xF base b w g1 nm c1 G c g3 ns c3 g0 n0 d0 h1 n1 d1 h2 n2 d2 M A B C S) (hR:R<base):Ei R w (pT g1) nm c1 (pT G) 3 c (pT g3) ns c3 M [A,B,C] S :=
 have hb:=E' hR h.top.1
 kH h.mem h.row (h.rA.lvQ hb) (h.rB.lvQ hb) (h.rC.lvQ hb) h.sn h.slen h.swf hR
theorem xF.kinds (h:xF base b w g1 nm c1 G c g3 ns c3 g0 n0 d0 h1 n1 d1 h2 n2 d2 M A B C S):(∃sz,aq w g1 50 sz)∧(∃sz,aq w G 61 sz)∧(∃sz,aq w g3 3 sz)∧(∃sz,aq w g0 63 sz)∧(∃sz,aq w h1 63 sz):=by
 obtain ⟨_,_,xs,h3,_⟩:=h.rA;obtain ⟨_,_,d,h4,_⟩:=h.rB;exact ⟨aQ h.mem.owns,aQ h.row,aQ h.sn,aQ h3,aQ h4⟩
structure nV (R:Nat) (a:Option Addr) (len cap P:Nat) (w wi:World) (X Z b:Nat) (q:Int) (g1 nm c1 G c g3 ns c3 g0 n0 d0 h1 n1 d1 h2 n2 d2:Nat) (M:List ac) (A B C:List af) (S:List Int):Prop where
 rd:bh wi R a len cap P
 bx:ay wi X (iT q) (sL g1 nm c1) (sL G 3 c) (sL g3 ns c3)
 br:ay wi Z (iT 0) nZ nZ nZ
 kx:aq wi X 31 4∧aq wi Z 31 4
 bt:xF w.heap.size b wi g1 nm c1 G c g3 ns c3 g0 n0 d0 h1 n1 d1 h2 n2 d2 M A B C S
 gr:w.grownBy wi (some R)
 top:w.heap.size≤X∧w.heap.size≤Z∧X≠Z∧R<w.heap.size∧ud a len R
theorem nV.below (h:nV R a len cap P w wi X Z b q g1 nm c1 G c g3 ns c3 g0 n0 d0 h1 n1 d1 h2 n2 d2 M A B C S) (hb:Bl wi wj):nV R a len cap P w wj X Z b q g1 nm c1 G c g3 ns c3 g0 n0 d0 h1 n1 d1 h2 n2 d2 M A B C S :=
 ⟨h.rd.below hb,h.bx.keep hb,h.br.keep hb,⟨h.kx.1.below hb,h.kx.2.below hb⟩,h.bt.kp h.top.2.2.2.1 (jW.below hb),ae h.gr (aJ hb),h.top⟩
theorem nV.read (h:nV R a len cap P w wi X Z b q g1 nm c1 G c g3 ns c3 g0 n0 d0 h1 n1 d1 h2 n2 d2 M A B C S) (hg:wi.grownBy wj (some R)) (hr:bh wj R a len cap P'):nV R a len cap P' w wj X Z b q g1 nm c1 G c g3 ns c3 g0 n0 d0 h1 n1 d1 h2 n2 d2 M A B C S :=
 have e1:X≠R:=by have:=h.top;omega
 have e2:Z≠R:=by have:=h.top;omega
 ⟨hr,h.bx.grownB hg e1,h.br.grownB hg e2,⟨h.kx.1.grown hg e1,h.kx.2.grown hg e2⟩,h.bt.kp h.top.2.2.2.1 (jW.grown hg),ae h.gr hg,h.top⟩
theorem nV.wrote (h:nV R a len cap P w wi X Z b q g1 nm c1 G c g3 ns c3 g0 n0 d0 h1 n1 d1 h2 n2 d2 M A B C S) {g T sz:Nat} (hg:wi.grownBy wj (some g)) (d:aq wi g T sz) (f:T≠31) (hl:w.heap.size≤g) :
 bh wj R a len cap P∧ay wj X (iT q) (sL g1 nm c1) (sL G 3 c) (sL g3 ns c3)∧ay wj Z (iT 0) nZ nZ nZ∧(aq wj X 31 4∧aq wj Z 31 4)∧w.grownBy wj (some R):=by
 have m:=h.top;have e1:X≠g:=fun e=>f (d.kind (e ▸ h.kx.1))
 have e2:Z≠g:=fun e=>f (d.kind (e ▸ h.kx.2))
 exact ⟨h.rd.grown hg m.2.2.2.2 (fun k e=>by cases e;omega),h.bx.grownB hg e1,h.br.grownB hg e2,⟨h.kx.1.grown hg e1,h.kx.2.grown hg e2⟩,aH h.gr hl hg⟩
def GB (lo R:Nat) (a:Option Addr) (len cap P:Nat) (w wz:World) (X Z:Nat):Prop:=∃P' q am nm cm av nv cv ak ns cs,bh wz R a len cap P'∧P'≤P+1000∧ay wz X (iT q) (.slice am nm cm) (.slice av nv cv) (.slice ak ns cs)∧ay wz Z (iT 0) nZ nZ nZ∧aq wz Z 31 4∧gM lo R wz (.agg #[iT q,.slice am nm cm,.slice av nv cv,.slice ak ns cs])∧w.grownBy wz (some R)∧(w.heap.size≤Z∧R<w.heap.size∧ud a len R)∧sj (.agg #[iT q,.slice am nm cm,.slice av nv cv,.slice ak ns cs])
theorem pS {lo:Nat} {d:World} (n:bh d R a len cap P') (r:P'≤P+1000) (e:ay d X (iT q) (.slice am nm cm) (.slice av nv cv) (.slice ak ns cs)) (o:ay d Z (iT 0) nZ nZ nZ) (hk:aq d Z 31 4) (hq:(Lit.int .i64 q).wf=true) (s:Ei R d am nm cm av nv cv ak ns cs M V S) (f:Gc M V) (m:w.grownBy d (some R)) (t:w.heap.size≤Z∧R<w.heap.size∧ud a len R) (hs:(∃g,am=some ⟨g,0,none⟩)∧∃g,ak=some ⟨g,0,none⟩:=by exact ⟨⟨_,rfl⟩,⟨_,rfl⟩⟩) (hns:ns≤100:=by omega):GB lo R a len cap P w d X Z:=by
 obtain ⟨⟨_,rfl⟩,⟨_,rfl⟩⟩:=hs;exact ⟨P',q,_,nm,cm,av,nv,cv,_,ns,cs,n,r,e,o,hk,.inr ⟨q,_,nm,cm,av,nv,cv,_,ns,cs,M,V,S,rfl,hq,s,hns,f⟩,m,t,⟨q,_,_,_,_,_,_,_,_,_,rfl⟩⟩
theorem pQ {lo:Nat} (o:Nat) (u:Value) (x:bh wi R a len cap P') (D:P'≤P+1000) (s:ay (wi.setCell ⟨X,o,none⟩ u) X (iT q) (.slice am nm cm) (.slice av nv cv) (.slice ak ns cs)) (y:ay wi Z (iT 0) nZ nZ nZ) (hk:aq wi X 31 4∧aq wi Z 31 4) (hq:(Lit.int .i64 q).wf=true) (E:Ei R wi am nm cm av nv cv ak ns cs M V S) (n:Gc M V) (r:w.grownBy wi (some R)) (m:w.heap.size≤X∧w.heap.size≤Z∧X≠Z∧R<w.heap.size∧ud a len R) (hs:(∃g,am=some ⟨g,0,none⟩)∧∃g,ak=some ⟨g,0,none⟩:=by exact ⟨⟨_,rfl⟩,⟨_,rfl⟩⟩) (hns:ns≤100:=by omega):GB lo R a len cap P w (wi.setCell ⟨X,o,none⟩ u) X Z:=by
 have t:X≠R:=by omega
 have f:∀b d,a=some ⟨b,d,none⟩→0<len→b≠X:=fun b d e hl=>by
  rcases m.2.2.2.2 with h0 | h0
  · omega
  · have:=h0 b d e;omega
 exact pS (x.other t f _ _) D s (y.other m.2.2.1 _) (hk.2.setCell _) hq (E.kp (jW.set hk.1 o u)) n (aH r m.1 (dg _ _ _ _)) ⟨m.2.1,m.2.2.2⟩ hs hns
def GC (lo R:Nat) (a:Option Addr) (len cap P d:Nat) (u:Value) (w:World) (e:Ending) (w':World):Prop:=∃v P',e=.returned v∧gM lo R w' v∧bh w' R a len cap P'∧P'≤P+d∧w.grownBy w' (some R)∧(sj u→sj v)
theorem F5 (lo:Nat) (v:Value) (w:World) (h:dr lo w v):Calls Tryz.prog 57 #[v] w fun e w'=>∃(q:Int) (b g1 nm c1 G c g3 ns c3 g0 d0 h1 d1 h2 d2:Nat) (M:List ac) (A B C:List af) (S:List Int),e=.returned (.agg #[iT q,sL g1 nm c1,sL G 3 c,sL g3 ns c3])∧xF w.heap.size b w' g1 nm c1 G c g3 ns c3 g0 A.length d0 h1 B.length d1 h2 C.length d2 M A B C S∧(aP q M [A,B,C] S=true∧nY M A B C)∧Bl w w'∧h1≠g0∧h1≠h2:=by
 obtain ⟨q,am,nm,cm,G,c,ak,ns,cs,g,o,e1,n1,d1,e2,n2,d2,M,A,B,C,S,rfl,r,d⟩:=h;have hM:=(aL d.1).2.2.1;have hS:=mQ d.1;have L:=r.mem.len;have hsl:=r.sn.length;refine (te 0 q am _ ak nm cm 3 c ns cs M [A,B,C] S w r.treeIn (by omega) (by omega) (by omega) (pI d.1)).mono ?_;rintro e w' ⟨g1,c1,H,c',g3,c3,rfl,hC,hb,b,f1,f2,K⟩;obtain ⟨_,xs,u,n,E⟩:=K;obtain ⟨g,o,a1,a2⟩:=n 0 A rfl;obtain ⟨t,F,b1,b2⟩:=n 1 B rfl;obtain ⟨s,D,f,J⟩:=n 2 C rfl;have hx:xs=[sL g A.length o,sL t B.length F,sL s C.length D]:=by
  have hl:=u.1;match xs,hl,a1,b1,f with
  | [x,y,z],_,a1,b1,f=>simp at a1 b1 f;rw [a1,b1,f]
 subst hx;have m:b≤w'.heap.size:=by obtain ⟨_,_,N,I,_⟩:=a2;have:=I.lt g rfl;omega
 exact ⟨q,b,g1,nm,c1,H,c',g3,ns,c3,g,o,t,F,s,D,M,A,B,C,S,rfl,⟨hC.mem,eN u f1,a2,b2,J,hC.sn,hC.slen,hC.swf,f2,f1,m⟩,d,hb,(E 0 1 _ _ _ _ _ _ (by omega) rfl rfl).symm,E 1 2 _ _ _ _ _ _ (by omega) rfl rfl⟩
theorem EL {n s t:Nat} {r o:World} {xs:List Value} (q1:B.length=n) (q2:∀p ∈ B,(Lit.int .i64 p.2).wf=true) (q3:r.ownsRow b 63 2 (sL h1 n d1) n xs) (q4:∀(i:Nat) (p:af),B[i]?=some p→∃e d,xs[i*2]?=some (sL e p.1.length d)∧xs[i*2+1]?=some (iT p.2)∧ag r b e p.1.length d p.1)
 (hE:∀{e d:Nat} {L:List ac},ag r b e L.length d L→ag o b e L.length d L) (ho:o.ownsRow b 63 2 (sL s (n+1) t) (n+1) (xs++[nZ,iT 0])) (hR:R<b):BZ R o (pT s) (n+1) t (B++[([],0)]):=fun w' k=>by
 have h3:=ku ho (by decide) hR k
 have u:=q3.1
 have g:=cC h3
 refine ⟨by rw [GO,q1];rfl,g.1,g.2,(fun e=>by cases e),?_,?_⟩
 · rintro x e _
   cases e
   exact ⟨(h3.lt s rfl).2,rfl,GQ _⟩
 · rintro x e i hi
   cases e
   rw [GO,q1] at hi
   simp only [Hn,Io] at hi
   by_cases y:i<n
   · have f:i<B.length:=by omega
     obtain ⟨e0,d0,a1,a2,a3⟩:=q4 i _ (j' f)
     have hE:=hE a3
     rw [List.getElem_append_left f]
     refine ⟨q2 _ (Hj f),_,_,_,?_,?_,(hE.kp hR k).entsAt,fun _ _ _=>GQ _⟩
     · simp only [GT]
       exact (h3.cellAt _ (by omega)).trans ((GW (by omega)).trans a1)
     · simp only [GT]
       exact (h3.cellAt _ (by omega)).trans ((GW (by omega)).trans a2)
   · have m:i=B.length:=by omega
     subst m
     rw [List.getElem_append_right (GL _)]
     simp only [IW,List.getElem_cons_zero]
     refine ⟨by decide,none,0,0,?_,?_,Bs _ _ _⟩
     · simp only [GT]
       refine (h3.cellAt _ (by omega)).trans ?_
       rw [GR (by omega),show B.length*2 - xs.length=0 by omega]
       rfl
     · simp only [GT]
       refine (h3.cellAt _ (by omega)).trans ?_
       rw [GR (by omega),show B.length*2+1 - xs.length=1 by omega]
       rfl
theorem xF.swap (h:xF base b w g1 nm c1 G c g3 ns c3 g0 n0 d0 h1 n1 d1 h2 n2 d2 M A B C S):xF base b ((w.setCell ⟨G,0,none⟩ (sL h2 n2 d2)).setCell ⟨G,2,none⟩ (sL g0 n0 d0)) g1 nm c1 G c g3 ns c3 h2 n2 d2 h1 n1 d1 g0 n0 d0 M C B A S:=by
 obtain ⟨⟨_,k1⟩,⟨_,t⟩,⟨_,k3⟩,_⟩:=h.kinds;have f:=dg w G 0 (sL h2 n2 d2);have r:=t.setCell (b:=G) (o:=0) (sL h2 n2 d2);have m:=dg (w.setCell ⟨G,0,none⟩ (sL h2 n2 d2)) G 2 (sL g0 n0 d0);have s:∀{g n d:Nat} {Z:List af},bo b w g n d Z→bo b ((w.setCell ⟨G,0,none⟩ (sL h2 n2 d2)).setCell ⟨G,2,none⟩ (sL g0 n0 d0)) g n d Z:=fun u=>(u.grown t (by decide) (by decide) f).grown r (by decide) (by decide) m
 have e:=(h.row.stored 0 (sL h2 n2 d2)).1;have r2:=(e.stored 2 (sL g0 n0 d0)).1;have hm:=dV h.mem h.row (by decide) f;have hs:=cV h.sn h.row (by decide) f;exact ⟨dV hm e (by decide) m,r2,s h.rC,s h.rB,s h.rA,cV hs e (by decide) m,h.slen,h.swf,h.far,h.top.1,by have:=h.top.2;simpa [World.setCell] using this⟩
theorem xF.putL {f e m:Nat} {D:List af} (h:xF base b w g1 nm c1 G c g3 ns c3 g0 n0 d0 h1 n1 d1 h2 n2 d2 M A B C S) (hp:bo b w f e m D) (k:Nat) (hk:k<3) (r:n0≤e):∃a0 F H a1 m1 k1 a2 m2 J E y x,xF base b (w.setCell ⟨G,k,none⟩ (sL f e m)) g1 nm c1 G c g3 ns c3 a0 F H a1 m1 k1 a2 m2 J M E y x S∧F≤e∧(nY M A B C→o5 D→nY M E y x):=by
 obtain ⟨_,⟨_,K⟩,_⟩:=h.kinds;have u:=dg w G k (sL f e m);have o:∀{g n d:Nat} {Z:List af},bo b w g n d Z→bo b (w.setCell ⟨G,k,none⟩ (sL f e m)) g n d Z:=fun I=>I.grown K (by decide) (by decide) u
 have s:=(h.row.stored k (sL f e m)).1;have hm:=dV h.mem h.row (by decide) u;have hs:=cV h.sn h.row (by decide) u;have t:base≤b∧b≤(w.setCell ⟨G,k,none⟩ (sL f e m)).heap.size:=⟨h.top.1,by have:=h.top.2;simpa [World.setCell] using this⟩;rcases (by omega:k=0∨k=1∨k=2) with rfl | rfl | rfl
 · exact ⟨f,e,m,h1,n1,d1,h2,n2,d2,D,B,C,⟨hm,s,o hp,o h.rB,o h.rC,hs,h.slen,h.swf,h.far,t⟩,GL _,fun k d=>⟨k.1,d,k.2.2⟩⟩
 · exact ⟨g0,n0,d0,f,e,m,h2,n2,d2,A,D,C,⟨hm,s,o h.rA,o hp,o h.rC,hs,h.slen,h.swf,h.far,t⟩,r,fun k d=>⟨k.1,k.2.1,d,k.2.2.2⟩⟩
 · exact ⟨g0,n0,d0,h1,n1,d1,f,e,m,A,B,D,⟨hm,s,o h.rA,o h.rB,o hp,hs,h.slen,h.swf,h.far,t⟩,r,fun k d=>⟨k.1,k.2.1,k.2.2.1,d⟩⟩
theorem yG (R P lo:Nat) (a:Option Addr) (len cap:Nat) (v:Value) (w:World) (h:bh w R a len cap P) (aW:ud a len R) (hP:P<68000) (hR:R<lo) (bw:lo≤w.heap.size) (hg:dr lo w v) :
 Calls Tryz.prog 76 #[.pointer (pT R),v] w (GC lo R a len cap P 1000 v w):=by
 obtain ⟨i0,hi,cL,cT,cB⟩:=info_parts Tryz.infoEnt;obtain ⟨j0,hj,cS,cJ,cM⟩:=info_parts Tryz.infoInt;obtain ⟨l0,hl,c4,bP,bV⟩:=info_parts Tryz.infoRun;obtain ⟨q,am,nm,cm,av,nv,cv,ak,ns,cs,rfl⟩:=hg.val;obtain ⟨X,hX⟩:=aG w.heap.size;obtain ⟨W,hW⟩:=aG ((w.alloc (.cells #[iT q,.slice am nm cm,.slice av nv cv,.slice ak ns cs] 31)).alloc (.cells #[iT 0,nZ,nZ,nZ] 31));have kW:Bl w W:=by rw [hW];exact bZ.alloc (by simp) _
 have bx:ay W X (iT q) (.slice am nm cm) (.slice av nv cv) (.slice ak ns cs):=by rw [hW,hX];exact (ay.new _ _ _ _ _ _).alloc _
 have br:ay W (X+1) (iT 0) nZ nZ nZ∧aq W (X+1) 31 4:=by
  have:=ay.new (w.alloc (.cells #[iT q,.slice am nm cm,.slice av nv cv,.slice ak ns cs] 31)) 31 (iT 0) nZ nZ nZ;rw [GY] at this;rw [hW,hX];have h2:=cX (w.alloc (.cells #[iT q,.slice am nm cm,.slice av nv cv,.slice ak ns cs] 31)) #[iT 0,nZ,nZ,nZ] 31;rw [GY] at h2;exact ⟨this,h2⟩
 have kX:aq W X 31 4:=by rw [hW,hX];exact (cX w #[iT q,.slice am nm cm,.slice av nv cv,.slice ak ns cs] 31).below bZ
 have S0:Eq (pH lo R a len cap P w W X (X+1) q am nm cm av nv cv ak ns cs):=⟨h.below kW,bx,br.1,⟨kX,br.2⟩,hg.below kW,iG.of kW,bw,Nat.le_of_eq hX.symm,hR,aW,by omega,by omega⟩;have bG:Eq (w.grownBy W (some R)):=aJ kW;have cf:Eq (nv=3):=by obtain ⟨q',dt,dp,dn,G,c,dC,dQ,dm,gA,dA,e1,n1,d1,e2,n2,d2,M,A,B,C,S,e,_,_⟩:=hg;cases e;rfl
 clear h aW bw hg kW bx br kX;go_enter Tryz.func76,Tryz.ntmps76
 go_upto_region 1 with fail
 rw [← hX,← hW];clear hX hW;go_wp2_with fail
 refine (dy R P a len cap 70 _ S0.o.rd (by omega) (by omega)).mono ?_;rintro e w1 ⟨k,rfl,hk,co,bb⟩;have e5:0≤k∧k<70:=⟨hk.1,hk.2 (by omega)⟩;have S1:Eq (pH lo R a len cap (P+1) w w1 X (X+1) q am nm cm av nv cv ak ns cs):=S0.o.read bb co;have bg:Eq (w.grownBy w1 (some R)):=ae bG.o bb;clear S0 bb co hk bG;have x0:=S1.o.bx.all;by_cases dT:k > 6
 · have r0:=S1.o.br.all;go_wp2;refine bodyPost_ret (v:=.agg #[iT q,.slice am nm cm,.slice av nv cv,.slice ak ns cs]) ?_ rfl ⟨_,P+1,rfl,.inl (S1.o.good.four S1.o.kx.2 S1.o.br),?_,by omega,?_,id⟩
   · have e:=(((S1.o.br.set0 (iT q)).set1 (.slice am nm cm)).set2 (.slice av nv cv)).set3 (.slice ak ns cs);simp [results,Tryz.results76,go_sem,e.all]
   · have ht:=S1.o.top;have Q:X+1≠R:=by omega
     have r:∀b a3,a=some ⟨b,a3,none⟩→0<len→b≠X+1:=fun b a3 e hl=>by
      rcases ht.2.2.2.1 with h0 | h0
      · omega
      · have:=h0 b a3 e;omega
     exact (((S1.o.rd.other Q r _ _).other Q r _ _).other Q r _ _).other Q r _ _
   · have I:w.heap.size≤X+1:=by have:=S1.o.top;omega
     exact aH (aH (aH (aH bg.o I (dg _ _ _ _)) I (dg _ _ _ _)) I (dg _ _ _ _)) I (dg _ _ _ _)
 have dD:decide (6<k)=false:=decide_eq_false (by omega);have bB:nv=3:=cf.o;subst bB;go_wp2_with fail
 clear x0;refine (F5 lo _ w1 S1.o.good).mono ?_;rintro e w2 ⟨q,b,g1,nm,c1,G,c,g3,ns,c3,g0,d0,h1,d1,h2,d2,M,A,B,C,S,rfl,bD,b8,bc,bu⟩;have S2:Eq (pH lo R a len cap (P+1) w w2 X (X+1) _ am _ cm av 3 cv ak _ cs):=S1.o.below bc;have c7:Eq (w.grownBy w2 (some R)):=ae bg.o (aJ bc);have bN:Eq (xF w1.heap.size b w2 g1 nm c1 G c g3 ns c3 g0 A.length d0 h1 B.length d1 h2 C.length d2 M A B C S):=bD;have aF:Eq (aP q M [A,B,C] S=true):=b8.1;have O:Eq (nY M A B C):=b8.2;have bJ:Eq (h1≠g0∧h1≠h2):=bu;have F:Eq (w.heap.size≤w1.heap.size∧R<w.heap.size):=⟨S1.o.low.size,by have:=S1.o.top;omega⟩;have x0:=S2.o.bx.all;clear S1 bg bD b8 bc cf bu;go_upto_region 5 with fail
 obtain ⟨w3,bd⟩:=aG ((((w2.setCell ⟨X,0,none⟩ (iT q)).setCell ⟨X,1,none⟩ (sL g1 nm c1)).setCell ⟨X,2,none⟩ (sL G 3 c)).setCell ⟨X,3,none⟩ (sL g3 ns c3));have J:Eq (nV R a len cap (P+1) w w3 X (X+1) b q g1 nm c1 G c g3 ns c3 g0 A.length d0 h1 B.length d1 h2 C.length d2 M A B C S):=by
  have ht:=S2.o.top;have Q:X≠R:=by omega
  have r:∀b a3,a=some ⟨b,a3,none⟩→0<len→b≠X:=fun b a3 e hl=>by
   rcases ht.2.2.2.1 with h0 | h0
   · omega
   · have:=h0 b a3 e;omega
  have k1:=S2.o.kx.1;have k2:=S2.o.kx.2;have hr:=S2.o.br;have I:w.heap.size≤X:=ht.2.1;rw [bd];have hB:=bN.o.kp (R:=R) (by have:=F.o;omega) (jW.four k1 (iT q) (sL g1 nm c1) (sL G 3 c) (sL g3 ns c3));exact ⟨(((S2.o.rd.other Q r _ _).other Q r _ _).other Q r _ _).other Q r _ _,(((S2.o.bx.set0 _).set1 _).set2 _).set3 _,(((hr.other (by omega) _).other (by omega) _).other (by omega) _).other (by omega) _,⟨(((k1.setCell _).setCell _).setCell _).setCell _,(((k2.setCell _).setCell _).setCell _).setCell _⟩,
   ⟨hB.mem.mono F.o.1,eN hB.row F.o.1,hB.rA,hB.rB,hB.rC,eN hB.sn F.o.1,hB.slen,hB.swf,hB.far,GU F.o.1 hB.top.1,hB.top.2⟩,aH (aH (aH (aH c7.o I (dg _ _ _ _)) I (dg _ _ _ _)) I (dg _ _ _ _)) I (dg _ _ _ _),ht.2.1,by omega,by omega,F.o.2,ht.2.2.2.1⟩
 rw [← bd];clear bd x0 S2 c7 bN;have HQ:Eq (0≤q∧q≤100000∧M.length≤60∧S.length≤4∧A.length≤4∧B.length≤8):=by
  have h1:=aL aF.o;have h2:=mQ aF.o;have h3:=(dJ.1 aF.o).2.2.2.2.2.2.1;have h4:=(cP.1 h3.1).1;have h5:=(cP.1 h3.2.1).1;exact ⟨by omega,by omega,h1.2.2.1,h2,by omega,by omega⟩
 have db:ns≤99:=by have h1:=HQ.o;have h2:=J.o.bt.slen;omega
 clear aF;go_upto_block 0 with fail
 go_cut [21] (fun _ wz=>GB lo R a len cap P w wz X (X+1))
 case first =>
  by_cases k0:k=0
  · subst k0;have x0:=J.o.bx.all;have be:IntKind.i64.wrap (q - 1)=q - 1:=by have:=HQ.o;rw [G4];unfold wrap64;omega
    go_wp2_with fail
    clear x0 be;have kc:Bl w3 (w3.alloc (.cells ((([0,-1,100001,q - 1]:List Int).map iT).toArray) 3)):=bZ;refine (fo Wf R (P+1) a len cap w3.heap.size 0 4 4 _ (J.o.rd.below kc) (by omega) (by omega) (by omega) (by have:=J.o.rd.lt;omega) (by simp) (eV w3 3 [0,-1,100001,q - 1] Wf ?_)).mono ?_
    · intro s hs;have:=HQ.o;simp only [GZ,Hs,or_false] at hs;rcases hs with rfl | rfl | rfl | rfl <;> exact Hu (by omega)
    rintro e w4 ⟨z,rfl,hz,a8,a9⟩;have n:Eq (nV R a len cap (P+1+1) w w4 X (X+1) b q g1 nm c1 G c g3 ns c3 g0 A.length d0 h1 B.length d1 h2 C.length d2 M A B C S):=(J.o.below kc).read a9 a8;clear kc a8 a9 J;have x0:=n.o.bx.all;go_wp2;go_meet
    exact pQ 0 _ n.o.rd (by omega) (n.o.bx.set0 _) n.o.br n.o.kx hz (n.o.bt.rdT F.o.2) O.o.all n.o.gr n.o.top
  have eb:(k == 0)=false:=by simpa using k0
  by_cases k1:k=1
  · subst k1;have g:Eq (∀w',ay w' X (iT q) (sL g1 nm c1) (sL G 3 c) (sL g3 ns c3)→(fun w':World=>w'.cell? ⟨X,0,none⟩=some (iT q)∧w'.cell? ⟨X,1,none⟩=some (sL g1 nm c1)∧w'.cell? ⟨X,2,none⟩=some (sL G 3 c)∧w'.cell? ⟨X,3,none⟩=some (sL g3 ns c3)∧X<w'.heap.size) w'):=fun w' b=>⟨b.c0,b.c1,b.c2,b.c3,b.lt⟩
    have n:Eq (nV R a len cap (P+1) w w3.drew X (X+1) b q g1 nm c1 G c g3 ns c3 g0 A.length d0 h1 B.length d1 h2 C.length d2 M A B C S):=J.o.below (Below.refl _ w3).drew;clear J;go_upto_region 10 with fail
    refine FI 7 g n.o.bx fun D=>?_
    generalize w3.drew=wd at D n ⊢;refine vl 0 3 D ?_;refine sI 3 fun K hK=>?_
    go_simp;refine (iN R (P+1) a len cap 1 _ n.o.rd (by omega) (by decide)).mono ?_;rintro e w4 ⟨kk,tt,qq,d,nn,P2,rfl,bO,a8,e8,a9⟩;have S5:Eq (nV R a len cap P2 w w4 X (X+1) b q g1 nm c1 G c g3 ns c3 g0 A.length d0 h1 B.length d1 h2 C.length d2 M A B C S):=n.o.read a9 a8;have bv:Eq (jX kk tt qq d nn):=bO;clear bO a8 a9 n;go_wp2_with fail
    refine hK.o _ _ (g.o _ S5.o.bx) fun D=>?_
    (try go_frame);refine sI 4 fun K hK=>?_
    go_simp;have kc:Bl w4 (w4.alloc (.cells #[.string kk,iT qq,iT d,.string tt,iT nn] 50)):=bZ;have Y:Eq (nV R a len cap P2 w (w4.alloc (.cells #[.string kk,iT qq,iT d,.string tt,iT nn] 50)) X (X+1) b q g1 nm c1 G c g3 ns c3 g0 A.length d0 h1 B.length d1 h2 C.length d2 M A B C S):=S5.o.below kc;have x:=r6 w4 kk qq d tt nn;clear kc S5;generalize w4.heap.size=gb at x ⊢;generalize w4.alloc (.cells #[.string kk,iT qq,iT d,.string tt,iT nn] 50)=w5 at Y x ⊢;refine hK.o _ _ (g.o _ Y.o.bx) fun D=>?_
    (try go_frame);refine sI 5 fun K hK=>?_
    have c6:=Y.o.bt.mem.len;have aU:=HQ.o;refine fU rfl (.tmp 44) (.tmp 47) 28 rfl w.heap.size 50 i0 _ 5 56 Tryz.underlying28 hi cL cT cB rfl (by decide) g1 nm c1 _ rfl Y.o.bt.mem.owns ⟨gb,0,none⟩ 1 1 [.string kk,iT qq,iT d,.string tt,iT nn] rfl rfl x (by intro u hu;simp at hu;rcases hu with rfl | rfl | rfl | rfl | rfl <;> rfl) (by unfold maxLen;omega) (by omega) Y.o.gr.size ?_;intro g8 c8 H U f N;obtain ⟨⟨s1,kE⟩,_⟩:=Y.o.bt.kinds;obtain ⟨y1,y2,y3,y4,y5⟩:=Y.o.wrote f kE (by decide) Y.o.bt.mem.lt.1;have al:Eq (ay H X (iT q) (sL g1 nm c1) (sL G 3 c) (sL g3 ns c3)):=y2;have a5:ag H w.heap.size g8 (nm+1) c8 (M++[((kk,qq,d,tt,nn):ac)]):=⟨by rw [bC];exact U,by rw [GO,c6];rfl,fun l hl=>by
     rcases GX.1 hl with h | h
     · exact Y.o.bt.mem.ents l h
     · rw [G5] at h;subst h;exact kQ bv.o⟩
    have bn:Eq (Ei R H (pT g8) (nm+1) c8 (pT G) 3 c (pT g3) ns c3 (M++[((kk,qq,d,tt,nn):ac)]) [A,B,C] S):=by
     have t:=Y.o.bt;have E:R<b:=E' F.o.2 t.top.1;exact kH a5 (cV t.row t.mem.owns (by decide) f) ((t.rA.low t.far f).lvQ E) ((t.rB.low t.far f).lvQ E) ((t.rC.low t.far f).lvQ E) (cV t.sn t.mem.owns (by decide) f) t.slen t.swf F.o.2
    have HY:Eq (bh H R a len cap P2∧ay H (X+1) (iT 0) nZ nZ nZ∧(aq H X 31 4∧aq H (X+1) 31 4)∧w.grownBy H (some R)):=⟨y1,y3,y4,y5⟩;have aC:Eq _:=Y.o.top;clear U f N kE y1 y2 y3 y4 y5 a5 Y x c6 aU;refine hK.o _ _ (g.o _ al.o) fun D=>?_
    (try go_frame);refine vl 6 1 D ?_;refine FA 7 fun K hK=>?_
    have x0:=al.o.all;go_simp;refine hK.o _ _ ?_;clear hK K;(try go_frame);refine dZ ?_;clear x0 D g;go_wp2;go_meet
    exact pQ 1 _ HY.o.1 (by omega) (al.o.set1 _) HY.o.2.1 HY.o.2.2.1 (Hu (by have:=HQ.o;omega)) bn.o (nY.all ⟨O.o.1.app (fun l hl=>by rw [G5] at hl;subst hl;exact bv.o.1.2.2),O.o.2⟩) HY.o.2.2.2 aC.o
  have dL:(k == 1)=false:=by simpa using k1
  by_cases k2:k=2
  · subst k2;have x0:=J.o.bx.all;have du:(2:Int)≤((3:Nat):Int):=by omega
    have dx:3≤c:=by have:=(cC J.o.bt.row).1;omega
    have dR:(2:Int)≤(c:Int):=by omega
    have e6:2≤c:=by omega
    go_wp2;go_meet
    have t:=J.o.bt;have E:R<b:=E' F.o.2 t.top.1;exact pQ 2 _ J.o.rd (by omega) (J.o.bx.set2 _) J.o.br J.o.kx (Hu (by have:=HQ.o;omega)) (ED t.mem t.row (t.rA.lvQ E) (t.rB.lvQ E) (t.rC.lvQ E) t.sn t.slen t.swf F.o.2) ⟨O.o.1,fun Z hZ=>O.o.all.2 Z (by simp at hZ ⊢;rcases hZ with h | h <;> simp [h])⟩ J.o.gr J.o.top
  have e3:(k == 2)=false:=by simpa using k2
  by_cases k3:k=3
  · subst k3;have g:Eq (∀w',ay w' X (iT q) (sL g1 nm c1) (sL G 3 c) (sL g3 ns c3)→(fun w':World=>w'.cell? ⟨X,0,none⟩=some (iT q)∧w'.cell? ⟨X,1,none⟩=some (sL g1 nm c1)∧w'.cell? ⟨X,2,none⟩=some (sL G 3 c)∧w'.cell? ⟨X,3,none⟩=some (sL g3 ns c3)∧X<w'.heap.size) w'):=fun w' b=>⟨b.c0,b.c1,b.c2,b.c3,b.lt⟩
    have n:Eq (nV R a len cap (P+1) w w3.drew X (X+1) b q g1 nm c1 G c g3 ns c3 g0 A.length d0 h1 B.length d1 h2 C.length d2 M A B C S):=J.o.below (Below.refl _ w3).drew;have be:IntKind.i64.wrap (q+1)=q+1:=by have:=HQ.o;rw [G4];unfold wrap64;omega
    clear J;go_upto_region 14 with fail
    refine FI 13 g n.o.bx fun D=>?_
    generalize w3.drew=wd at D n ⊢;refine vl 0 8 D ?_;refine sI 8 fun K hK=>?_
    go_simp;have kc:Bl wd (wd.alloc (.cells ((([0,q+1,-1,q]:List Int).map iT).toArray) 3)):=bZ;have S5:Eq (nV R a len cap (P+1) w (wd.alloc (.cells ((([0,q+1,-1,q]:List Int).map iT).toArray) 3)) X (X+1) b q g1 nm c1 G c g3 ns c3 g0 A.length d0 h1 B.length d1 h2 C.length d2 M A B C S):=n.o.below kc;have az:=eV wd 3 [0,q+1,-1,q] Wf (by
     intro s hs;have:=HQ.o;simp only [GZ,Hs,or_false] at hs;rcases hs with rfl | rfl | rfl | rfl <;> exact Hu (by omega))
    have bf:wd.heap.size≠R:=by have:=n.o.rd.lt;omega
    have aA:wd.heap.size<(wd.alloc (.cells ((([0,q+1,-1,q]:List Int).map iT).toArray) 3)).heap.size:=by simp
    clear kc n be;simp only [IH,I9] at az aA S5;generalize wd.heap.size=gn at az bf aA ⊢;generalize wd.alloc (.cells [iT 0,iT (q+1),iT (-1),iT q].toArray 3)=w4 at az aA S5 ⊢;refine hK.o _ _ (g.o _ S5.o.bx) fun D=>?_
    (try go_frame);refine sI 9 fun K hK=>?_
    go_simp;refine (fo Wf R (P+1) a len cap gn 0 4 4 _ S5.o.rd (by omega) (by omega) (by omega) bf aA az).mono ?_;rintro e w5 ⟨z,rfl,hz,aD,aE⟩;have Y:Eq (nV R a len cap (P+1+1) w w5 X (X+1) b q g1 nm c1 G c g3 ns c3 g0 A.length d0 h1 B.length d1 h2 C.length d2 M A B C S):=S5.o.read aE aD;have HZ:Eq (Wf z):=hz;clear hz aD aE S5 az bf aA;go_wp2_with fail
    refine hK.o _ _ (g.o _ Y.o.bx) fun D=>?_
    (try go_frame);refine sI 10 fun K hK=>?_
    go_simp;have kc:Bl w5 (w5.alloc (.cells #[iT z] 3)):=bZ;have S7:Eq (nV R a len cap (P+1+1) w (w5.alloc (.cells #[iT z] 3)) X (X+1) b q g1 nm c1 G c g3 ns c3 g0 A.length d0 h1 B.length d1 h2 C.length d2 M A B C S):=Y.o.below kc;have x:=dU w5 (iT z) 3;clear kc Y;generalize w5.heap.size=gb at x ⊢;generalize w5.alloc (.cells #[iT z] 3)=w6 at S7 x ⊢;refine hK.o _ _ (g.o _ S7.o.bx) fun D=>?_
    (try go_frame);refine sI 11 fun K hK=>?_
    have hsl:=S7.o.bt.slen;have aU:=HQ.o;refine fU rfl (.tmp 59) (.tmp 68) 24 rfl w.heap.size 3 j0 _ 1 8 Tryz.underlying24 hj cS cJ cM rfl (by decide) g3 ns c3 _ rfl S7.o.bt.sn ⟨gb,0,none⟩ 1 1 [iT z] rfl rfl x (by intro u hu;simp at hu;subst hu;rfl) (by unfold maxLen;omega) (by omega) S7.o.gr.size ?_;intro g8 c8 H U f N;obtain ⟨_,_,⟨s1,kI⟩,_⟩:=S7.o.bt.kinds;obtain ⟨y1,y2,y3,y4,y5⟩:=S7.o.wrote f kI (by decide) (S7.o.bt.sn.lt g3 rfl).1;have al:Eq (ay H X (iT q) (sL g1 nm c1) (sL G 3 c) (sL g3 ns c3)):=y2;have bn:Eq (Ei R H (pT g1) nm c1 (pT G) 3 c (pT g8) (ns+1) c8 M [A,B,C] (S++[z])):=by
     have t:=S7.o.bt;have E:R<b:=E' F.o.2 t.top.1;exact kH (dV t.mem t.sn (by decide) f) (cV t.row t.sn (by decide) f) ((t.rA.grown kI (by decide) (by decide) f).lvQ E) ((t.rB.grown kI (by decide) (by decide) f).lvQ E) ((t.rC.grown kI (by decide) (by decide) f).lvQ E) (by rw [Iw];exact U) (by rw [GO,hsl];rfl) (fun y hy=>by
      rcases GX.1 hy with h | h
      · exact t.swf y h
      · rw [G5] at h;subst h;exact HZ.o) F.o.2
    have HY:Eq (bh H R a len cap (P+1+1)∧ay H (X+1) (iT 0) nZ nZ nZ∧(aq H X 31 4∧aq H (X+1) 31 4)∧w.grownBy H (some R)):=⟨y1,y3,y4,y5⟩;have aC:Eq _:=S7.o.top;clear U f N kI y1 y2 y3 y4 y5 S7 x hsl aU;refine hK.o _ _ (g.o _ al.o) fun D=>?_
    (try go_frame);refine vl 12 1 D ?_;refine FA 13 fun K hK=>?_
    have x0:=al.o.all;go_simp;refine hK.o _ _ ?_;clear hK K;(try go_frame);refine dZ ?_;clear x0 D g;go_wp2;go_meet
    exact pQ 3 _ HY.o.1 (by omega) (al.o.set3 _) HY.o.2.1 HY.o.2.2.1 (Hu (by have:=HQ.o;omega)) bn.o O.o.all HY.o.2.2.2 aC.o
  have dY:(k == 3)=false:=by simpa using k3
  by_cases k4:k=4
  · subst k4;have x0:=J.o.bx.all;have y0:=J.o.bt.row.cellAt 0 (by omega);have y1:=J.o.bt.row.cellAt 1 (by omega);have y2:=J.o.bt.row.cellAt 2 (by omega);have yf:=J.o.bt.row.frozenAt;have yz:=(J.o.bt.row.lt G rfl).2;simp only [IF,Ig] at y0 y1 y2;have ba:X≠G:=fun e=>by obtain ⟨_,⟨s1,kG⟩,_⟩:=J.o.bt.kinds;rw [← e] at kG;exact absurd (J.o.kx.1.kind kG) (by decide)
    have bm:G≠X:=fun e=>ba e.symm
    have g:Eq (∀w':World,(w'.cell? ⟨X,2,none⟩=some (sL G 3 c)∧X<w'.heap.size∧w'.cell? ⟨G,2,none⟩=some (sL h2 C.length d2)∧G<w'.heap.size)→(fun w':World=>w'.cell? ⟨X,2,none⟩=some (sL G 3 c)∧X<w'.heap.size∧w'.cell? ⟨G,2,none⟩=some (sL h2 C.length d2)∧G<w'.heap.size) w'):=fun _ h=>h
    go_upto_region 17 with fail
    have n:Eq (nV R a len cap (P+1) w w3.drew X (X+1) b q g1 nm c1 G c g3 ns c3 g0 A.length d0 h1 B.length d1 h2 C.length d2 M A B C S):=J.o.below (Below.refl _ w3).drew;clear J x0 y0 y1 y2 yf yz;refine eJ g ⟨n.o.bx.c2,n.o.bx.lt,n.o.bt.row.cellAt 2 (by omega),(n.o.bt.row.lt G rfl).2⟩ fun D=>?_
    generalize w3.drew=wd at D n ⊢;refine aR 0 7 D ?_;refine aV 7 fun K hK=>?_
    have y0:=n.o.bt.row.cellAt 0 (by omega);have y1:=n.o.bt.row.cellAt 1 (by omega);have y2:=n.o.bt.row.cellAt 2 (by omega);have yf:=n.o.bt.row.frozenAt;have yz:=(n.o.bt.row.lt G rfl).2;simp only [IF,Ig] at y0 y1 y2;go_simp;refine hK.o _ _ ?_ (fun D=>?_)
    · exact ⟨(n.o.bx.other bm _).c2,(n.o.bx.other (o:=0) bm (sL h2 C.length d2)).lt,by rw [GM _ _ _ _ (by simp)];exact y2,by simpa [World.setCell] using yz⟩
    clear hK K y0 y1 y2;(try go_frame);refine dN ?_;clear D g;have xb:=n.o.bx.other (b':=G) (o:=0) bm (sL h2 C.length d2);have x2:=xb.c2;have xz:=xb.lt;have aK:=(n.o.bt.row.stored 0 (sL h2 C.length d2)).1;have y2:=aK.cellAt 2 (by omega);have yf:=aK.frozenAt;have yz:=(aK.lt G rfl).2;clear aK xb;go_wp2;go_meet
    have t:=n.o.bt;obtain ⟨_,⟨s1,kG⟩,_⟩:=t.kinds;have cH:=(t.row.lt G rfl).1;have s2:=dg wd G 0 (sL h2 C.length d2);have s3:=dg (wd.setCell ⟨G,0,none⟩ (sL h2 C.length d2)) G 2 (sL g0 A.length d0);have hg:wd.grownBy _ (some G):=ae s2 s3;obtain ⟨z1,z2,z3,z4,z5⟩:=n.o.wrote hg kG (by decide) cH;exact pS z1 (by omega) z2 z3 z4.2 (Hu (by have:=HQ.o;omega)) (t.swap.rdT F.o.2) (nY.all ⟨O.o.1,O.o.2.2.2,O.o.2.2.1,O.o.2.1⟩) z5 ⟨n.o.top.2.1,n.o.top.2.2.2⟩
  have dM:(k == 4)=false:=by simpa using k4
  by_cases k5:k=5
  · subst k5;go_wp2;go_loopw [7] (fun iv wr=>∃(i P' g0 n0 d0 h1 n1 d1 h2 n2 d2:Nat) (A B C:List af),iv=iT (i:Int)∧i≤5∧P'≤P+1+160*i∧n0≤4+i∧nV R a len cap P' w wr X (X+1) b q g1 nm c1 G c g3 ns c3 g0 n0 d0 h1 n1 d1 h2 n2 d2 M A B C S∧nY M A B C) (fun iv _=>(5 - (intOf iv).toNat))
    case atStart=>exact ⟨0,P+1,g0,A.length,d0,h1,B.length,d1,h2,C.length,d2,A,B,C,rfl,by omega,by omega,by have:=HQ.o;omega,J.o,O.o⟩
    case round =>
     clear J;obtain ⟨i,P',g0,n0,d0,h1,n1,d1,h2,n2,d2,A,B,C,rfl,dH,cg,dW,hS,cn⟩:=hrel;have bK:Eq (nY M A B C):=cn;clear cn;have n:Eq (nV R a len cap P' w wr X (X+1) b q g1 nm c1 G c g3 ns c3 g0 n0 d0 h1 n1 d1 h2 n2 d2 M A B C S):=hS;clear hS;by_cases dq:i<5
     · have bS:(i:Int)<5:=by omega
       have dB:IntKind.i64.wrap ((i:Int)+1)=(i:Int)+1:=by rw [G4];unfold wrap64;omega
       have g:Eq (∀w',(∃P2,nV R a len cap P2 w w' X (X+1) b q g1 nm c1 G c g3 ns c3 g0 n0 d0 h1 n1 d1 h2 n2 d2 M A B C S)→(fun w':World=>w'.cell? ⟨X,0,none⟩=some (iT q)∧w'.cell? ⟨X,1,none⟩=some (sL g1 nm c1)∧w'.cell? ⟨X,2,none⟩=some (sL G 3 c)∧w'.cell? ⟨X,3,none⟩=some (sL g3 ns c3)∧w'.cell? ⟨G,0,none⟩=some (sL g0 n0 d0)∧X<w'.heap.size∧G<w'.heap.size) w'):=fun w' hb=>by
        obtain ⟨P2,hb⟩:=hb;exact ⟨hb.bx.c0,hb.bx.c1,hb.bx.c2,hb.bx.c3,by have:=hb.bt.row.cellAt 0 (by omega);simpa using this,hb.bx.lt,(hb.bt.row.lt G rfl).2⟩
       have S5:Eq (nV R a len cap P' w wr.drew X (X+1) b q g1 nm c1 G c g3 ns c3 g0 n0 d0 h1 n1 d1 h2 n2 d2 M A B C S):=n.o.below (Below.refl _ wr).drew;clear n;go_upto_region 23 with fail
       refine FI 13 g ⟨P',S5.o⟩ fun D=>?_
       generalize wr.drew=wd at D S5 ⊢;refine vl 0 3 D ?_;refine vl 4 5 D ?_;refine sI 3 fun K hK=>?_
       go_simp;refine (dy R P' a len cap 3 _ S5.o.rd (by omega) (by omega)).mono ?_;rintro e w4 ⟨kp,rfl,hk,a8,a9⟩;have Y:Eq (nV R a len cap (P'+1) w w4 X (X+1) b q g1 nm c1 G c g3 ns c3 g0 n0 d0 h1 n1 d1 h2 n2 d2 M A B C S):=S5.o.read a9 a8;have ca:0≤kp∧kp<3:=⟨hk.1,hk.2 (by omega)⟩;obtain ⟨kn,rfl⟩:=Il ca.1;have cI:kn<3:=by omega
       have cZ:(kn:Int)<3:=by omega
       have d7:(kn:Int)<((3:Nat):Int):=by omega
       clear hk ca a8 a9 S5;go_wp2_with fail
       refine hK.o _ _ (g.o _ ⟨_,Y.o⟩) fun D=>?_
       (try go_frame);refine sI 9 fun K hK=>?_
       go_simp;refine (yI R (P'+1) a len cap _ Y.o.rd Y.o.top.2.2.2.2 (by omega)).mono ?_;rintro e w5 ⟨ge,ne,ce,P3,m,L,rfl,hO,bM,bz,bA,aD,dX,aE⟩;have S7:Eq (nV R a len cap P3 w w5 X (X+1) b q g1 nm c1 G c g3 ns c3 g0 n0 d0 h1 n1 d1 h2 n2 d2 M A B C S):=Y.o.read aE aD;have HO:Eq (ag w5 b ge ne ce L):=hO.mono Y.o.bt.top.2;have aN:Eq ((Lit.int .i64 m).wf=true):=bA;have bI:Eq (pU L):=fun e he=>(bz e he).1.2.2
       clear hO bz bA aD aE Y bM;go_wp2_with fail
       refine hK.o _ _ (g.o _ ⟨_,S7.o⟩) fun D=>?_
       (try go_frame);refine sI 10 fun K hK=>?_
       go_simp;have kc:Bl w5 (w5.alloc (.cells #[sL ge ne ce,iT m] 63)):=bZ;have S8:Eq (nV R a len cap P3 w (w5.alloc (.cells #[sL ge ne ce,iT m] 63)) X (X+1) b q g1 nm c1 G c g3 ns c3 g0 n0 d0 h1 n1 d1 h2 n2 d2 M A B C S):=S7.o.below kc;have a5:Eq (ag (w5.alloc (.cells #[sL ge ne ce,iT m] 63)) b ge ne ce L):=HO.o.below kc;have x:=bW w5 (sL ge ne ce) (iT m) 63;clear kc S7 HO;generalize w5.heap.size=gb at x ⊢;generalize w5.alloc (.cells #[sL ge ne ce,iT m] 63)=w6 at S8 a5 x ⊢;refine hK.o _ _ (g.o _ ⟨_,S8.o⟩) fun D=>?_
       (try go_frame);refine sI 11 fun K hK=>?_
       have cR:=S8.o.bt.rA;obtain ⟨q1,q2,dE,q3,q4⟩:=cR;refine fU rfl (.tmp 101) (.tmp 104) 61 rfl b 63 l0 _ 2 32 Tryz.underlying61 hl c4 bP bV rfl (by decide) g0 n0 d0 _ rfl q3 ⟨gb,0,none⟩ 1 1 [sL ge ne ce,iT m] rfl rfl x (by intro u hu;simp at hu;rcases hu with rfl | rfl <;> rfl) (by unfold maxLen;omega) (by omega) S8.o.bt.top.2 ?_;intro g8 c8 H U f N;have cA:=a5.o.len;subst cA;have hD:=ir q1 q2 q3 (fun i p hp=>q4 i p hp) a5.o aN.o f U;obtain ⟨s1,kA⟩:=aQ q3;have t:=S8.o.bt;obtain ⟨A',ck,nA⟩:=t.rA.beside t.rA f N a5.o aN.o;obtain ⟨B',bR,nB⟩:=t.rB.beside t.rA f N a5.o aN.o;obtain ⟨C',bL,nC⟩:=t.rC.beside t.rA f N a5.o aN.o;obtain ⟨z1,z2,z3,z4,z5⟩:=S8.o.wrote f kA (by decide) (GU t.top.1 (q3.lt g0 rfl).1);have S9:Eq (nV R a len cap P3 w H X (X+1) b q g1 nm c1 G c g3 ns c3 g0 n0 d0 h1 n1 d1 h2 n2 d2 M A' B' C' S):=⟨z1,z2,z3,z4,⟨dV t.mem q3 (by decide) f,cV t.row q3 (by decide) f,ck,bR,bL,cV t.sn q3 (by decide) f,t.slen,t.swf,t.far,t.top.1,GU t.top.2 f.size⟩,z5,S8.o.top⟩;have bH:Eq (nY M A' B' C'∧o5 (A++[(L,m)])):=by
        have hx:∀{Z Z':List af},o5 Z→(∀p ∈ Z',p ∈ Z∨p=(L,m))→o5 Z':=fun h k p hp=>(k p hp).elim (h p) (fun e=>by rw [e];exact bI.o)
        have k:=bK.o;exact ⟨⟨k.1,hx k.2.1 nA,hx k.2.2.1 nB,hx k.2.2.2 nC⟩,k.2.1.app (o5.one bI.o)⟩
       clear nA nB nC;have HD:Eq (bo b H g8 (n0+1) c8 (A++[(L,m)])):=hD;clear q1 q2 q3 q4 U f N hD kA t ck bR bL z1 z2 z3 z4 z5 S8 a5 x;refine hK.o _ _ (by have hb:=S9.o;exact ⟨hb.bx.c0,hb.bx.c1,hb.bx.c2,hb.bx.c3,by have:=hb.bt.row.cellAt 0 (by omega);simpa using this,hb.bx.lt,(hb.bt.row.lt G rfl).2⟩) fun D=>?_
       (try go_frame);refine vl 12 1 D ?_;refine FA 13 fun K hK=>?_
       have yc:∃v,H.cell? ⟨G,kn,none⟩=some v:=by
        rcases (by omega:kn=0∨kn=1∨kn=2) with rfl | rfl | rfl
        · exact ⟨_,S9.o.bt.row.cellAt 0 (by omega)⟩
        · exact ⟨_,S9.o.bt.row.cellAt 1 (by omega)⟩
        · exact ⟨_,S9.o.bt.row.cellAt 2 (by omega)⟩
       obtain ⟨yv,yc⟩:=yc;have yf:=S9.o.bt.row.frozenAt;have yz:=(S9.o.bt.row.lt G rfl).2;go_simp;refine hK.o _ _ ?_;clear hK K yc yf yz;(try go_frame);refine dZ ?_;clear D g;go_wp2;go_roundw
       case rel =>
        obtain ⟨a0,m0,cW,a1,m1,cU,a2,m2,cF,A2,B2,C2,hb,I,cx⟩:=S9.o.bt.putL HD.o kn cI (by omega);obtain ⟨_,⟨s1,kG⟩,_⟩:=S9.o.bt.kinds;obtain ⟨z1,z2,z3,z4,z5⟩:=S9.o.wrote (dg H G kn (sL g8 (n0+1) c8)) kG (by decide) (S9.o.bt.row.lt G rfl).1;exact ⟨i+1,P3,a0,m0,cW,a1,m1,cU,a2,m2,cF,A2,B2,C2,by rw [show ((i+1:Nat):Int)=(i:Int)+1 by omega],by omega,by omega,by omega,⟨z1,z2,z3,z4,hb,z5,S9.o.top⟩,cx bH.o.1 bH.o.2⟩
       case measure=>simp [intOf];omega
     · have bS:¬(i:Int)<5:=by omega
       go_wp2_with fail
       go_meet
       have s:=n.o;exact pS s.rd (by omega) s.bx s.br s.kx.2 (Hu (by have:=HQ.o;omega)) (s.bt.rdT F.o.2) bK.o.all s.gr ⟨s.top.2.1,s.top.2.2.2⟩
  have dw:(k == 5)=false:=by simpa using k5
  have g:Eq (∀w',(∃P2,nV R a len cap P2 w w' X (X+1) b q g1 nm c1 G c g3 ns c3 g0 A.length d0 h1 B.length d1 h2 C.length d2 M A B C S)→(fun w':World=>w'.cell? ⟨X,0,none⟩=some (iT q)∧w'.cell? ⟨X,1,none⟩=some (sL g1 nm c1)∧w'.cell? ⟨X,2,none⟩=some (sL G 3 c)∧w'.cell? ⟨X,3,none⟩=some (sL g3 ns c3)∧w'.cell? ⟨G,1,none⟩=some (sL h1 B.length d1)∧X<w'.heap.size∧G<w'.heap.size) w'):=fun w' hb=>by
   obtain ⟨P2,hb⟩:=hb;exact ⟨hb.bx.c0,hb.bx.c1,hb.bx.c2,hb.bx.c3,by have:=hb.bt.row.cellAt 1 (by omega);simpa using this,hb.bx.lt,(hb.bt.row.lt G rfl).2⟩
  have n:Eq (nV R a len cap (P+1) w w3.drew X (X+1) b q g1 nm c1 G c g3 ns c3 g0 A.length d0 h1 B.length d1 h2 C.length d2 M A B C S):=J.o.below (Below.refl _ w3).drew;clear J;go_upto_region 6 with fail
  refine FI 10 g ⟨_,n.o⟩ fun D=>?_
  generalize w3.drew=wd at D n ⊢;refine vl 0 7 D ?_;refine sI 7 fun K hK=>?_
  go_simp;have kc:Bl wd (wd.alloc (.cells #[nZ,iT 0] 63)):=bZ;have S8:Eq (nV R a len cap (P+1) w (wd.alloc (.cells #[nZ,iT 0] 63)) X (X+1) b q g1 nm c1 G c g3 ns c3 g0 A.length d0 h1 B.length d1 h2 C.length d2 M A B C S):=n.o.below kc;have x:=bW wd nZ (iT 0) 63;clear kc n;generalize wd.heap.size=gb at x ⊢;generalize wd.alloc (.cells #[nZ,iT 0] 63)=w6 at S8 x ⊢;refine hK.o _ _ (g.o _ ⟨_,S8.o⟩) fun D=>?_
  (try go_frame);refine sI 8 fun K hK=>?_
  have cw:=S8.o.bt.rB;obtain ⟨q1,q2,dG,q3,q4⟩:=cw;have aU:=HQ.o;refine fU rfl (.tmp 27) (.tmp 29) 61 rfl b 63 l0 _ 2 32 Tryz.underlying61 hl c4 bP bV rfl (by decide) h1 B.length d1 _ rfl q3 ⟨gb,0,none⟩ 1 1 [nZ,iT 0] rfl rfl x (by intro u hu;simp at hu;rcases hu with rfl | rfl <;> rfl) (by unfold maxLen;omega) (by omega) S8.o.bt.top.2 ?_;intro g8 c8 H U f N;obtain ⟨s1,kB⟩:=aQ q3;have t:=S8.o.bt;have E:R<b:=E' F.o.2 t.top.1;have cu:Eq (R<b):=E;obtain ⟨z1,z2,z3,z4,z5⟩:=S8.o.wrote f kB (by decide) (GU t.top.1 (q3.lt h1 rfl).1);have HM:Eq (ag H w.heap.size g1 nm c1 M):=dV t.mem q3 (by decide) f;have T:Eq (H.ownsRow w.heap.size 61 1 (sL G 3 c) 3 [sL g0 A.length d0,sL h1 B.length d1,sL h2 C.length d2]):=cV t.row q3 (by decide) f;have cG:Eq (∀v,BZ R (H.setCell ⟨G,1,none⟩ v) (pT g8) (B.length+1) c8 (B++[([],0)])):=fun v=>EL q1 q2 q3 q4 (fun {e d L} hO=>dV (hO.grown f (fun e'=>by
   obtain ⟨s4,k4⟩:=aQ hO.owns;have ct:e=h1:=GN e';rw [ct] at k4;exact absurd (kB.kind k4) (by decide))) T.o (by decide) (dg _ _ _ _)) (cV U T.o (by decide) (dg _ _ _ _)) E
  have bF:Eq (bo b H g0 A.length d0 A∧bo b H h2 C.length d2 C):=⟨t.rA.grownR kB (fun e=>bJ.o.1 e.symm) f,t.rC.grownR kB (fun e=>bJ.o.2 e.symm) f⟩;have bj:Eq (H.ownsRow w.heap.size 3 1 (sL g3 ns c3) ns (S.map iT)∧S.length=ns∧∀z ∈ S,(Lit.int .i64 z).wf=true):=⟨cV t.sn q3 (by decide) f,t.slen,t.swf⟩;have c5:Eq (ay H X (iT q) (sL g1 nm c1) (sL G 3 c) (sL g3 ns c3)):=z2;have HZ:Eq (bh H R a len cap (P+1)∧ay H (X+1) (iT 0) nZ nZ nZ∧(aq H X 31 4∧aq H (X+1) 31 4)∧w.grownBy H (some R)):=⟨z1,z3,z4,z5⟩;have aC:Eq (w.heap.size≤X∧w.heap.size≤X+1∧X≠X+1∧R<w.heap.size∧ud a len R):=S8.o.top;clear q1 q2 q3 q4 U f N kB t z1 z2 z3 z4 z5 S8 x E;refine hK.o _ _ (by have hb:=c5.o;exact ⟨hb.c0,hb.c1,hb.c2,hb.c3,by have:=T.o.cellAt 1 (by omega);simpa using this,hb.lt,(T.o.lt G rfl).2⟩) fun D=>?_
  (try go_frame);refine vl 9 1 D ?_;refine FA 10 fun K hK=>?_
  have y1:=T.o.cellAt 1 (by omega);have yf:=T.o.frozenAt;have yz:=(T.o.lt G rfl).2;simp only [IF,Ig] at y1;go_simp;refine hK.o _ _ ?_;clear hK K y1 yf yz;(try go_frame);refine dZ ?_;clear D g;go_wp2;go_meet
  obtain ⟨s1,kG⟩:=aQ T.o;have sg:=dg H G 1 (sL g8 (B.length+1) c8);have ba:X≠G:=fun e=>by rw [← e] at kG;exact absurd (HZ.o.2.2.1.1.kind kG) (by decide)
  have b3:X+1≠G:=fun e=>by rw [← e] at kG;exact absurd (HZ.o.2.2.1.2.kind kG) (by decide)
  have I:=(T.o.lt G rfl).1;have hT:=aC.o;refine pS (HZ.o.1.grown sg hT.2.2.2.2 (fun k e=>by cases e;omega)) (by omega) (c5.o.grownB sg ba) (HZ.o.2.1.grownB sg b3) (HZ.o.2.2.1.2.grown sg b3) (Hu (by have:=HQ.o;omega)) (M:=M) (V:=[A,B++[([],0)],C]) (S:=S) ?_ (nY.all ⟨O.o.1,O.o.2.1,O.o.2.2.1.app (o5.one uv),O.o.2.2.2⟩) (aH HZ.o.2.2.2 I sg) ⟨hT.2.1,hT.2.2.2⟩;have E:=cu.o;exact kH (dV HM.o T.o (by decide) sg) (T.o.stored 1 (sL g8 (B.length+1) c8)).1 ((bF.o.1.grown kG (by decide) (by decide) sg).lvQ E) (cG.o _) ((bF.o.2.grown kG (by decide) (by decide) sg).lvQ E) (cV bj.o.1 T.o (by decide) sg) bj.o.2.1 bj.o.2.2 F.o.2
 case rest =>
  obtain ⟨P',q,am,nm,cm,av,nv,cv,ak,ns,cs,cc,cg,bE,bk,bQ,b5,cj,c9,bX⟩:=hcut;have cD:Eq (sj (.agg #[iT q,.slice am nm cm,.slice av nv cv,.slice ak ns cs])):=bX;have HA:Eq (gM lo R wc (.agg #[iT q,.slice am nm cm,.slice av nv cv,.slice ak ns cs])):=b5;have bT:Eq (ay wc (X+1) (iT 0) nZ nZ nZ):=bk;have HY:Eq (bh wc R a len cap P'∧aq wc (X+1) 31 4∧w.grownBy wc (some R)∧w.heap.size≤X+1∧R<w.heap.size∧ud a len R):=⟨cc,bQ,cj,c9⟩;have x0:=bE.all;have r0:=bk.all;clear cc bE bk bQ b5 cj c9 bX J;go_wp2;refine bodyPost_ret (v:=.agg #[iT q,.slice am nm cm,.slice av nv cv,.slice ak ns cs]) ?_ rfl ⟨_,P',rfl,HA.o.four HY.o.2.1 bT.o,?_,cg,?_,fun _=>cD.o⟩
  · have e:=(((bT.o.set0 (iT q)).set1 (.slice am nm cm)).set2 (.slice av nv cv)).set3 (.slice ak ns cs);simp [results,Tryz.results76,go_sem,e.all]
  · have ht:=HY.o.2.2.2;have Q:X+1≠R:=by omega
    have r:∀b a3,a=some ⟨b,a3,none⟩→0<len→b≠X+1:=fun b a3 e hl=>by
     rcases ht.2.2 with h0 | h0
     · omega
     · have:=h0 b a3 e;omega
    exact (((HY.o.1.other Q r _ _).other Q r _ _).other Q r _ _).other Q r _ _
  · have I:w.heap.size≤X+1:=HY.o.2.2.2.1;exact aH (aH (aH (aH HY.o.2.2.1 I (dg _ _ _ _)) I (dg _ _ _ _)) I (dg _ _ _ _)) I (dg _ _ _ _)
end Go.Proofs.YtpobkmjicbobdaaGreat
