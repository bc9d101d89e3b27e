/- Walks. -/
import Derived.Test.YtpobkmjicbobdaaGreatBc29
namespace Go.Proofs.YtpobkmjicbobdaaGreat
set_option maxRecDepth 100000
set_option maxHeartbeats 40000000
open Go.RowKit
variable {A B C:List aj} {G P P' R X Z b base c c1 c3 cap cm cs cv d0 d1 d2 g0 g1 g3 h1 h2 len n0 n1 n2 nm ns nv:Nat} {M:List ae} {S:List Int} {V:List (List aj)} {a ak am av:Option Addr} {q:Int} {w wi wj:World}
structure vN (base b:Nat) (w:World) (g1 nm c1 G c g3 ns c3 g0 n0 d0 h1 n1 d1 h2 n2 d2:Nat) (M:List ae) (A B C:List aj) (S:List Int):Prop where
 mem:ag w base g1 nm c1 M
 row:w.ownsRow base 61 1 (sL G 3 c) 3 [sL g0 n0 d0,sL h1 n1 d1,sL h2 n2 d2]
 rA:bw b w g0 n0 d0 A
 rB:bw b w h1 n1 d1 B
 rC:bw b w h2 n2 d2 C
 sn:w.ownsRow base 3 1 (sL g3 ns c3) ns (S.map iT)
 slen:S.length=ns
 swf:∀z ∈ S,(Lit.int .i64 z).wf=true
 far:g1<b
 top:base≤b∧b≤w.heap.size
theorem vN.kp {w':World} (h:vN base b w g1 nm c1 G c g3 ns c3 g0 n0 d0 h1 n1 d1 h2 n2 d2 M A B C S) (hR:R<base) (k:jB R w w'):vN base b w' g1 nm c1 G c g3 ns c3 g0 n0 d0 h1 n1 d1 h2 n2 d2 M A B C S :=
 have hb:R<b:=u' hR h.top.1
 ⟨h.mem.kp hR k,jI h.row (by decide) hR k,h.rA.kp hb k,h.rB.kp hb k,h.rC.kp hb k,jI h.sn (by decide) hR k,h.slen,h.swf,h.far,h.top.1,FK h.top.2 k.1⟩
theorem vN.rdT (h:vN base b w g1 nm c1 G c g3 ns c3 g0 n0 d0 h1 n1 d1 h2 n2 d2 M A B C S) (hR:R<base):C9 R w (pT g1) nm c1 (pT G) 3 c (pT g3) ns c3 M [A,B,C] S :=
 have hb:R<b:=u' hR h.top.1
 jK h.mem h.row (h.rA.lvQ hb) (h.rB.lvQ hb) (h.rC.lvQ hb) h.sn h.slen h.swf hR
theorem vN.kinds (h:vN base b w g1 nm c1 G c g3 ns c3 g0 n0 d0 h1 n1 d1 h2 n2 d2 M A B C S):(∃sz,ay w g1 50 sz)∧(∃sz,ay w G 61 sz)∧(∃sz,ay w g3 3 sz)∧(∃sz,ay w g0 63 sz)∧(∃sz,ay w h1 63 sz):=by
 obtain ⟨_,_,xs,h3,_⟩:=h.rA;obtain ⟨_,_,d,h4,_⟩:=h.rB;exact ⟨aS h.mem.owns,aS h.row,aS h.sn,aS h3,aS h4⟩
structure mE (R:Nat) (a:Option Addr) (len cap P:Nat) (w wi:World) (X Z b:Nat) (q:Int) (g1 nm c1 G c g3 ns c3 g0 n0 d0 h1 n1 d1 h2 n2 d2:Nat) (M:List ae) (A B C:List aj) (S:List Int):Prop where
 rd:bj wi R a len cap P
 bx:aE wi X (iT q) (sL g1 nm c1) (sL G 3 c) (sL g3 ns c3)
 br:aE wi Z (iT 0) nZ nZ nZ
 kx:ay wi X 31 4∧ay wi Z 31 4
 bt:vN w.heap.size b wi g1 nm c1 G c g3 ns c3 g0 n0 d0 h1 n1 d1 h2 n2 d2 M A B C S
 gr:w.grownBy wi (some R)
 top:w.heap.size≤X∧w.heap.size≤Z∧X≠Z∧R<w.heap.size∧sY a len R
theorem mE.below (h:mE R a len cap P w wi X Z b q g1 nm c1 G c g3 ns c3 g0 n0 d0 h1 n1 d1 h2 n2 d2 M A B C S) (hb:Bl wi wj):mE R a len cap P w wj X Z b q g1 nm c1 G c g3 ns c3 g0 n0 d0 h1 n1 d1 h2 n2 d2 M A B C S :=
 ⟨h.rd.below hb,h.bx.keep hb,h.br.keep hb,⟨h.kx.1.below hb,h.kx.2.below hb⟩,h.bt.kp h.top.2.2.2.1 (jB.below hb),af h.gr (aT hb),h.top⟩
theorem mE.read (h:mE R a len cap P w wi X Z b q g1 nm c1 G c g3 ns c3 g0 n0 d0 h1 n1 d1 h2 n2 d2 M A B C S) (hg:wi.grownBy wj (some R)) (hr:bj wj R a len cap P'):mE R a len cap P' w wj X Z b q g1 nm c1 G c g3 ns c3 g0 n0 d0 h1 n1 d1 h2 n2 d2 M A B C S :=
 have e1:X≠R:=by have:=h.top;omega
 have e2:Z≠R:=by have:=h.top;omega
 ⟨hr,h.bx.grownB hg e1,h.br.grownB hg e2,⟨h.kx.1.grown hg e1,h.kx.2.grown hg e2⟩,h.bt.kp h.top.2.2.2.1 (jB.grown hg),af h.gr hg,h.top⟩
theorem mE.wrote (h:mE R a len cap P w wi X Z b q g1 nm c1 G c g3 ns c3 g0 n0 d0 h1 n1 d1 h2 n2 d2 M A B C S) {g T sz:Nat} (hg:wi.grownBy wj (some g)) (d:ay wi g T sz) (f:T≠31) (hl:w.heap.size≤g) :
 bj wj R a len cap P∧aE wj X (iT q) (sL g1 nm c1) (sL G 3 c) (sL g3 ns c3)∧aE wj Z (iT 0) nZ nZ nZ∧(ay wj X 31 4∧ay wj Z 31 4)∧w.grownBy wj (some R):=by
 have m:=h.top;have e1:X≠g:=fun e=>f (d.kind (e ▸ h.kx.1))
 have e2:Z≠g:=fun e=>f (d.kind (e ▸ h.kx.2))
 exact ⟨h.rd.grown hg m.2.2.2.2 (fun k e=>by cases e;omega),h.bx.grownB hg e1,h.br.grownB hg e2,⟨h.kx.1.grown hg e1,h.kx.2.grown hg e2⟩,aI h.gr hl hg⟩
def Fl (lo R:Nat) (a:Option Addr) (len cap P:Nat) (w wz:World) (X Z:Nat):Prop:=∃P' q am nm cm av nv cv ak ns cs,bj wz R a len cap P'∧P'≤P+1000∧aE wz X (iT q) (.slice am nm cm) (.slice av nv cv) (.slice ak ns cs)∧aE wz Z (iT 0) nZ nZ nZ∧ay wz Z 31 4∧eI lo R wz (.agg #[iT q,.slice am nm cm,.slice av nv cv,.slice ak ns cs])∧w.grownBy wz (some R)∧(w.heap.size≤Z∧R<w.heap.size∧sY a len R)∧qL (.agg #[iT q,.slice am nm cm,.slice av nv cv,.slice ak ns cs])
theorem o6 {s:Nat} {d:World} (o:bj d R a len cap P') (t:P'≤P+1000) (f:aE d X (iT q) (.slice am nm cm) (.slice av nv cv) (.slice ak ns cs)) (m:aE d Z (iT 0) nZ nZ nZ) (hk:ay d Z 31 4) (hq:(Lit.int .i64 q).wf=true) (x:C9 R d am nm cm av nv cv ak ns cs M V S) (r:EG M V) (n:w.grownBy d (some R)) (u:w.heap.size≤Z∧R<w.heap.size∧sY a len R) (hs:(∃g,am=some ⟨g,0,none⟩)∧∃g,ak=some ⟨g,0,none⟩:=by exact ⟨⟨_,rfl⟩,⟨_,rfl⟩⟩) (e:ns≤100:=by omega):Fl s R a len cap P w d X Z:=by
 obtain ⟨⟨_,rfl⟩,⟨_,rfl⟩⟩:=hs;exact ⟨P',q,_,nm,cm,av,nv,cv,_,ns,cs,o,t,f,m,hk,.inr ⟨q,_,nm,cm,av,nv,cv,_,ns,cs,M,V,S,rfl,hq,x,e,r⟩,n,u,⟨q,_,_,_,_,_,_,_,_,_,rfl⟩⟩
theorem o5 {F:Nat} (o:Nat) (u:Value) (y:bj wi R a len cap P') (E:P'≤P+1000) (n:aE (wi.setCell ⟨X,o,none⟩ u) X (iT q) (.slice am nm cm) (.slice av nv cv) (.slice ak ns cs)) (r:aE wi Z (iT 0) nZ nZ nZ) (hk:ay wi X 31 4∧ay wi Z 31 4) (hq:(Lit.int .i64 q).wf=true) (H:C9 R wi am nm cm av nv cv ak ns cs M V S) (D:EG M V) (s:w.grownBy wi (some R)) (f:w.heap.size≤X∧w.heap.size≤Z∧X≠Z∧R<w.heap.size∧sY a len R) (hs:(∃g,am=some ⟨g,0,none⟩)∧∃g,ak=some ⟨g,0,none⟩:=by exact ⟨⟨_,rfl⟩,⟨_,rfl⟩⟩) (t:ns≤100:=by omega):Fl F R a len cap P w (wi.setCell ⟨X,o,none⟩ u) X Z:=by
 have x:X≠R:=by omega
 have m:∀b d,a=some ⟨b,d,none⟩→0<len→b≠X:=fun b d e hl=>by
  rcases f.2.2.2.2 with h0 | h0
  · omega
  · have:=h0 b d e;omega
 exact o6 (y.other x m _ _) E n (r.other f.2.2.1 _) (hk.2.setCell _) hq (H.kp (jB.set hk.1 o u)) D (aI s f.1 (cJ _ _ _ _)) ⟨f.2.1,f.2.2.2⟩ hs t
def Fm (lo R:Nat) (a:Option Addr) (len cap P d:Nat) (u:Value) (w:World) (e:Ending) (w':World):Prop:=∃v P',e=.returned v∧eI lo R w' v∧bj w' R a len cap P'∧P'≤P+d∧w.grownBy w' (some R)∧(qL u→qL v)
theorem EV (I:Nat) (v:Value) (w:World) (h:dg I w v):Calls Tryz.prog 57 #[v] w fun e w'=>∃(q:Int) (b g1 nm c1 G c g3 ns c3 g0 d0 h1 d1 h2 d2:Nat) (M:List ae) (A B C:List aj) (S:List Int),e=.returned (.agg #[iT q,sL g1 nm c1,sL G 3 c,sL g3 ns c3])∧vN w.heap.size b w' g1 nm c1 G c g3 ns c3 g0 A.length d0 h1 B.length d1 h2 C.length d2 M A B C S∧(aY q M [A,B,C] S=true∧mG M A B C)∧Bl w w'∧h1≠g0∧h1≠h2:=by
 obtain ⟨q,am,nm,cm,G,c,ak,ns,cs,f,o,e1,n1,d1,e2,n2,d2,M,A,B,C,S,rfl,n,htb⟩:=h;have hM:=(aZ htb.1).2.2.1;have hS:=l8 htb.1;have F:=n.mem.len;have hsl:=n.sn.length;refine (rH 0 q am _ ak nm cm 3 c ns cs M [A,B,C] S w n.treeIn (by omega) (by omega) (by omega) (oR htb.1)).mono ?_;rintro e w' ⟨g1,c1,K,c',g3,c3,rfl,hC,hb,b,f1,f2,H⟩;obtain ⟨_,xs,r,g,E⟩:=H;obtain ⟨f,o,a1,a2⟩:=g 0 A rfl;obtain ⟨s,t,b1,b2⟩:=g 1 B rfl;obtain ⟨D,u,d,c2⟩:=g 2 C rfl;have hx:xs=[sL f A.length o,sL s B.length t,sL D C.length u]:=by
  have hl:=r.1;match xs,hl,a1,b1,d with
  | [x,y,z],_,a1,b1,d=>simp at a1 b1 d;rw [a1,b1,d]
 subst hx;have m:b≤w'.heap.size:=by obtain ⟨_,_,L,J,_⟩:=a2;have:=J.lt f rfl;omega
 exact ⟨q,b,g1,nm,c1,K,c',g3,ns,c3,f,o,s,t,D,u,M,A,B,C,S,rfl,⟨hC.mem,eV r f1,a2,b2,c2,hC.sn,hC.slen,hC.swf,f2,f1,m⟩,htb,hb,(E 0 1 _ _ _ _ _ _ (by omega) rfl rfl).symm,E 1 2 _ _ _ _ _ _ (by omega) rfl rfl⟩
theorem Dv {n s t:Nat} {r o:World} {xs:List Value} (q1:B.length=n) (q2:∀p ∈ B,(Lit.int .i64 p.2).wf=true) (q3:r.ownsRow b 63 2 (sL h1 n d1) n xs) (q4:∀(i:Nat) (p:aj),B[i]?=some p→∃e d,xs[i*2]?=some (sL e p.1.length d)∧xs[i*2+1]?=some (iT p.2)∧ag r b e p.1.length d p.1)
 (hE:∀{e d:Nat} {L:List ae},ag r b e L.length d L→ag o b e L.length d L) (ho:o.ownsRow b 63 2 (sL s (n+1) t) (n+1) (xs++[nZ,iT 0])) (hR:R<b):AO R o (pT s) (n+1) t (B++[([],0)]):=fun w' k=>by
 have h3:=jI ho (by decide) hR k
 have u:=q3.1
 have m:=cZ h3
 refine ⟨by rw [Fy,q1];rfl,m.1,m.2,(fun e=>by cases e),?_,?_⟩
 · rintro x e _
   cases e
   exact ⟨(h3.lt s rfl).2,rfl,FB _⟩
 · rintro x e i hi
   cases e
   rw [Fy,q1] at hi
   simp only [F5,Gz] at hi
   by_cases y:i<n
   · have f:i<B.length:=by omega
     obtain ⟨e0,d0,a1,a2,a3⟩:=q4 i _ (j' f)
     have hE:=hE a3
     rw [List.getElem_append_left f]
     refine ⟨q2 _ (F8 f),_,_,_,?_,?_,(hE.kp hR k).entsAt,fun _ _ _=>FB _⟩
     · simp only [FG]
       exact (h3.cellAt _ (by omega)).trans ((FE (by omega)).trans a1)
     · simp only [FG]
       exact (h3.cellAt _ (by omega)).trans ((FE (by omega)).trans a2)
   · have g:i=B.length:=by omega
     subst g
     rw [List.getElem_append_right (Fv _)]
     simp only [G5,List.getElem_cons_zero]
     refine ⟨by decide,none,0,0,?_,?_,Aq _ _ _⟩
     · simp only [FG]
       refine (h3.cellAt _ (by omega)).trans ?_
       rw [Fz (by omega),show B.length*2 - xs.length=0 by omega]
       rfl
     · simp only [FG]
       refine (h3.cellAt _ (by omega)).trans ?_
       rw [Fz (by omega),show B.length*2+1 - xs.length=1 by omega]
       rfl
theorem vN.swap (h:vN base b w g1 nm c1 G c g3 ns c3 g0 n0 d0 h1 n1 d1 h2 n2 d2 M A B C S):vN base b ((w.setCell ⟨G,0,none⟩ (sL h2 n2 d2)).setCell ⟨G,2,none⟩ (sL g0 n0 d0)) g1 nm c1 G c g3 ns c3 h2 n2 d2 h1 n1 d1 g0 n0 d0 M C B A S:=by
 obtain ⟨⟨_,k1⟩,⟨_,t⟩,⟨_,k3⟩,_⟩:=h.kinds;have m:=cJ w G 0 (sL h2 n2 d2);have f:=t.setCell (b:=G) (o:=0) (sL h2 n2 d2);have s:=cJ (w.setCell ⟨G,0,none⟩ (sL h2 n2 d2)) G 2 (sL g0 n0 d0);have e:∀{g n d:Nat} {Z:List aj},bw b w g n d Z→bw b ((w.setCell ⟨G,0,none⟩ (sL h2 n2 d2)).setCell ⟨G,2,none⟩ (sL g0 n0 d0)) g n d Z:=fun u=>(u.grown t (by decide) (by decide) m).grown f (by decide) (by decide) s
 have r:=(h.row.stored 0 (sL h2 n2 d2)).1;have r2:=(r.stored 2 (sL g0 n0 d0)).1;have hm:=dP h.mem h.row (by decide) m;have hs:=cH h.sn h.row (by decide) m;exact ⟨dP hm r (by decide) s,r2,e h.rC,e h.rB,e h.rA,cH hs r (by decide) s,h.slen,h.swf,h.far,h.top.1,by have:=h.top.2;simpa [World.setCell] using this⟩
theorem vN.putL {f e o:Nat} {D:List aj} (h:vN base b w g1 nm c1 G c g3 ns c3 g0 n0 d0 h1 n1 d1 h2 n2 d2 M A B C S) (hp:bw b w f e o D) (k:Nat) (hk:k<3) (r:n0≤e):∃a0 E J a1 m1 k1 a2 m2 k2 x y F,vN base b (w.setCell ⟨G,k,none⟩ (sL f e o)) g1 nm c1 G c g3 ns c3 a0 E J a1 m1 k1 a2 m2 k2 M x y F S∧E≤e∧(mG M A B C→nR D→mG M x y F):=by
 obtain ⟨_,⟨_,H⟩,_⟩:=h.kinds;have s:=cJ w G k (sL f e o);have m:∀{g n d:Nat} {Z:List aj},bw b w g n d Z→bw b (w.setCell ⟨G,k,none⟩ (sL f e o)) g n d Z:=fun I=>I.grown H (by decide) (by decide) s
 have u:=(h.row.stored k (sL f e o)).1;have hm:=dP h.mem h.row (by decide) s;have hs:=cH h.sn h.row (by decide) s;have t:base≤b∧b≤(w.setCell ⟨G,k,none⟩ (sL f e o)).heap.size:=⟨h.top.1,by have:=h.top.2;simpa [World.setCell] using this⟩;rcases (by omega:k=0∨k=1∨k=2) with rfl | rfl | rfl
 · exact ⟨f,e,o,h1,n1,d1,h2,n2,d2,D,B,C,⟨hm,u,m hp,m h.rB,m h.rC,hs,h.slen,h.swf,h.far,t⟩,Fv _,fun k d=>⟨k.1,d,k.2.2⟩⟩
 · exact ⟨g0,n0,d0,f,e,o,h2,n2,d2,A,D,C,⟨hm,u,m h.rA,m hp,m h.rC,hs,h.slen,h.swf,h.far,t⟩,r,fun k d=>⟨k.1,k.2.1,d,k.2.2.2⟩⟩
 · exact ⟨g0,n0,d0,h1,n1,d1,f,e,o,A,B,D,⟨hm,u,m h.rA,m h.rB,m hp,hs,h.slen,h.swf,h.far,t⟩,r,fun k d=>⟨k.1,k.2.1,k.2.2.1,d⟩⟩
theorem xm (R P lo:Nat) (a:Option Addr) (len cap:Nat) (v:Value) (w:World) (h:bj w R a len cap P) (aX:sY a len R) (hP:P<68000) (hR:R<lo) (bR:lo≤w.heap.size) (hg:dg lo w v) :
 Calls Tryz.prog 76 #[.pointer (pT R),v] w (Fm lo R a len cap P 1000 v w):=by
 obtain ⟨i0,hi,cV,cC,d3⟩:=info_parts Tryz.infoEnt;obtain ⟨j0,hj,cK,cW,cy⟩:=info_parts Tryz.infoInt;obtain ⟨l0,hl,ca,bA,cd⟩:=info_parts Tryz.infoRun;obtain ⟨q,am,nm,cm,av,nv,cv,ak,ns,cs,rfl⟩:=hg.val;obtain ⟨X,hX⟩:=aG w.heap.size;obtain ⟨W,hW⟩:=aG ((w.alloc (.cells #[iT q,.slice am nm cm,.slice av nv cv,.slice ak ns cs] 31)).alloc (.cells #[iT 0,nZ,nZ,nZ] 31));have kW:Bl w W:=by rw [hW];exact bZ.alloc (by simp) _
 have bx:aE W X (iT q) (.slice am nm cm) (.slice av nv cv) (.slice ak ns cs):=by rw [hW,hX];exact (aE.new _ _ _ _ _ _).alloc _
 have br:aE W (X+1) (iT 0) nZ nZ nZ∧ay W (X+1) 31 4:=by
  have:=aE.new (w.alloc (.cells #[iT q,.slice am nm cm,.slice av nv cv,.slice ak ns cs] 31)) 31 (iT 0) nZ nZ nZ;rw [FP] at this;rw [hW,hX];have h2:=cP (w.alloc (.cells #[iT q,.slice am nm cm,.slice av nv cv,.slice ak ns cs] 31)) #[iT 0,nZ,nZ,nZ] 31;rw [FP] at h2;exact ⟨this,h2⟩
 have kX:ay W X 31 4:=by rw [hW,hX];exact (cP w #[iT q,.slice am nm cm,.slice av nv cv,.slice ak ns cs] 31).below bZ
 have S0:Eq (lU lo R a len cap P w W X (X+1) q am nm cm av nv cv ak ns cs):=⟨h.below kW,bx,br.1,⟨kX,br.2⟩,hg.below kW,ir.of kW,bR,Nat.le_of_eq hX.symm,hR,aX,by omega,by omega⟩;have ci:Eq (w.grownBy W (some R)):=aT kW;have cn:Eq (nv=3):=by obtain ⟨q',dC,e3,dJ,G,c,dS,dK,ec,gA,dA,e1,n1,d1,e2,n2,d2,M,A,B,C,S,e,_,_⟩:=hg;cases e;rfl
 clear h aX bR hg kW bx br kX;go_enter Tryz.func76,Tryz.ntmps76
 go_upto_region 1 with fail
 rw [← hX,← hW];clear hX hW;go_wp2_with fail
 refine (cu R P a len cap 70 _ S0.o.rd (by omega) (by omega)).mono ?_;rintro e w1 ⟨k,rfl,hk,co,bl⟩;have eb:0≤k∧k<70:=⟨hk.1,hk.2 (by omega)⟩;have S1:Eq (lU lo R a len cap (P+1) w w1 X (X+1) q am nm cm av nv cv ak ns cs):=S0.o.read bl co;have bh:Eq (w.grownBy w1 (some R)):=af ci.o bl;clear S0 bl co hk ci;have x0:=S1.o.bx.all;by_cases e9:k > 6
 · have r0:=S1.o.br.all;go_wp2;refine bodyPost_ret (v:=.agg #[iT q,.slice am nm cm,.slice av nv cv,.slice ak ns cs]) ?_ rfl ⟨_,P+1,rfl,.inl (S1.o.good.four S1.o.kx.2 S1.o.br),?_,by omega,?_,id⟩
   · have e:=(((S1.o.br.set0 (iT q)).set1 (.slice am nm cm)).set2 (.slice av nv cv)).set3 (.slice ak ns cs);simp [results,Tryz.results76,go_sem,e.all]
   · have ht:=S1.o.top;have Q:X+1≠R:=by omega
     have r:∀b a3,a=some ⟨b,a3,none⟩→0<len→b≠X+1:=fun b a3 e hl=>by
      rcases ht.2.2.2.1 with h0 | h0
      · omega
      · have:=h0 b a3 e;omega
     exact (((S1.o.rd.other Q r _ _).other Q r _ _).other Q r _ _).other Q r _ _
   · have H:w.heap.size≤X+1:=by have:=S1.o.top;omega
     exact aI (aI (aI (aI bh.o H (cJ _ _ _ _)) H (cJ _ _ _ _)) H (cJ _ _ _ _)) H (cJ _ _ _ _)
 have e4:decide (6<k)=false:=decide_eq_false (by omega);have ch:nv=3:=cn.o;subst ch;go_wp2_with fail
 clear x0;refine (EV lo _ w1 S1.o.good).mono ?_;rintro e w2 ⟨q,b,g1,nm,c1,G,c,g3,ns,c3,g0,d0,h1,d1,h2,d2,M,A,B,C,S,rfl,c4,htb,bp,bO⟩;have S2:Eq (lU lo R a len cap (P+1) w w2 X (X+1) _ am _ cm av 3 cv ak _ cs):=S1.o.below bp;have bS:Eq (w.grownBy w2 (some R)):=af bh.o (aT bp);have cj:Eq (vN w1.heap.size b w2 g1 nm c1 G c g3 ns c3 g0 A.length d0 h1 B.length d1 h2 C.length d2 M A B C S):=c4;have aM:Eq (aY q M [A,B,C] S=true):=htb.1;have O:Eq (mG M A B C):=htb.2;have cf:Eq (h1≠g0∧h1≠h2):=bO;have F:Eq (w.heap.size≤w1.heap.size∧R<w.heap.size):=⟨S1.o.low.size,by have:=S1.o.top;omega⟩;have x0:=S2.o.bx.all;clear S1 bh c4 htb bp cn bO;go_upto_region 5 with fail
 obtain ⟨w3,bn⟩:=aG ((((w2.setCell ⟨X,0,none⟩ (iT q)).setCell ⟨X,1,none⟩ (sL g1 nm c1)).setCell ⟨X,2,none⟩ (sL G 3 c)).setCell ⟨X,3,none⟩ (sL g3 ns c3));have J:Eq (mE R a len cap (P+1) w w3 X (X+1) b q g1 nm c1 G c g3 ns c3 g0 A.length d0 h1 B.length d1 h2 C.length d2 M A B C S):=by
  have ht:=S2.o.top;have Q:X≠R:=by omega
  have r:∀b a3,a=some ⟨b,a3,none⟩→0<len→b≠X:=fun b a3 e hl=>by
   rcases ht.2.2.2.1 with h0 | h0
   · omega
   · have:=h0 b a3 e;omega
  have k1:=S2.o.kx.1;have k2:=S2.o.kx.2;have hr:=S2.o.br;have H:w.heap.size≤X:=ht.2.1;rw [bn];have hB:=cj.o.kp (R:=R) (by have:=F.o;omega) (jB.four k1 (iT q) (sL g1 nm c1) (sL G 3 c) (sL g3 ns c3));exact ⟨(((S2.o.rd.other Q r _ _).other Q r _ _).other Q r _ _).other Q r _ _,(((S2.o.bx.set0 _).set1 _).set2 _).set3 _,(((hr.other (by omega) _).other (by omega) _).other (by omega) _).other (by omega) _,⟨(((k1.setCell _).setCell _).setCell _).setCell _,(((k2.setCell _).setCell _).setCell _).setCell _⟩,
   ⟨hB.mem.mono F.o.1,eV hB.row F.o.1,hB.rA,hB.rB,hB.rC,eV hB.sn F.o.1,hB.slen,hB.swf,hB.far,FK F.o.1 hB.top.1,hB.top.2⟩,aI (aI (aI (aI bS.o H (cJ _ _ _ _)) H (cJ _ _ _ _)) H (cJ _ _ _ _)) H (cJ _ _ _ _),ht.2.1,by omega,by omega,F.o.2,ht.2.2.2.1⟩
 rw [← bn];clear bn x0 S2 bS cj;have HQ:Eq (0≤q∧q≤100000∧M.length≤60∧S.length≤4∧A.length≤4∧B.length≤8):=by
  have h1:=aZ aM.o;have h2:=l8 aM.o;have h3:=(dF.1 aM.o).2.2.2.2.2.2.1;have h4:=(cE.1 h3.1).1;have h5:=(cE.1 h3.2.1).1;exact ⟨by omega,by omega,h1.2.2.1,h2,by omega,by omega⟩
 have d5:ns≤99:=by have h1:=HQ.o;have h2:=J.o.bt.slen;omega
 clear aM;go_upto_block 0 with fail
 go_cut [21] (fun _ wz=>Fl lo R a len cap P w wz X (X+1))
 case first =>
  by_cases k0:k=0
  · subst k0;have x0:=J.o.bx.all;have bb:IntKind.i64.wrap (q - 1)=q - 1:=by have:=HQ.o;rw [FQ];unfold wrap64;omega
    go_wp2_with fail
    clear x0 bb;have kc:Bl w3 (w3.alloc (.cells ((([0,-1,100001,q - 1]:List Int).map iT).toArray) 3)):=bZ;refine (dV Wf R (P+1) a len cap w3.heap.size 0 4 4 _ (J.o.rd.below kc) (by omega) (by omega) (by omega) (by have:=J.o.rd.lt;omega) (by simp) (dH w3 3 [0,-1,100001,q - 1] Wf ?_)).mono ?_
    · intro s hs;have:=HQ.o;simp only [FF,F4,or_false] at hs;rcases hs with rfl | rfl | rfl | rfl <;> exact FW (by omega)
    rintro e w4 ⟨z,rfl,hz,a8,ab⟩;have n:Eq (mE R a len cap (P+1+1) w w4 X (X+1) b q g1 nm c1 G c g3 ns c3 g0 A.length d0 h1 B.length d1 h2 C.length d2 M A B C S):=(J.o.below kc).read ab a8;clear kc a8 ab J;have x0:=n.o.bx.all;go_wp2;go_meet
    exact o5 0 _ n.o.rd (by omega) (n.o.bx.set0 _) n.o.br n.o.kx hz (n.o.bt.rdT F.o.2) O.o.all n.o.gr n.o.top
  have dE:(k == 0)=false:=by simpa using k0
  by_cases k1:k=1
  · subst k1;have g:Eq (∀w',aE w' X (iT q) (sL g1 nm c1) (sL G 3 c) (sL g3 ns c3)→(fun w':World=>w'.cell? ⟨X,0,none⟩=some (iT q)∧w'.cell? ⟨X,1,none⟩=some (sL g1 nm c1)∧w'.cell? ⟨X,2,none⟩=some (sL G 3 c)∧w'.cell? ⟨X,3,none⟩=some (sL g3 ns c3)∧X<w'.heap.size) w'):=fun w' b=>⟨b.c0,b.c1,b.c2,b.c3,b.lt⟩
    have n:Eq (mE R a len cap (P+1) w w3.drew X (X+1) b q g1 nm c1 G c g3 ns c3 g0 A.length d0 h1 B.length d1 h2 C.length d2 M A B C S):=J.o.below (Below.refl _ w3).drew;clear J;go_upto_region 10 with fail
    refine Ey 7 g n.o.bx fun D=>?_
    generalize w3.drew=wd at D n ⊢;refine ud 0 3 D ?_;refine qY 3 fun K hK=>?_
    go_simp;refine (iA R (P+1) a len cap 1 _ n.o.rd (by omega) (by decide)).mono ?_;rintro e w4 ⟨kk,tt,qq,d,nn,P2,rfl,c7,a8,dz,ab⟩;have S5:Eq (mE R a len cap P2 w w4 X (X+1) b q g1 nm c1 G c g3 ns c3 g0 A.length d0 h1 B.length d1 h2 C.length d2 M A B C S):=n.o.read ab a8;have bz:Eq (jC kk tt qq d nn):=c7;clear c7 a8 ab n;go_wp2_with fail
    refine hK.o _ _ (g.o _ S5.o.bx) fun D=>?_
    (try go_frame);refine qY 4 fun K hK=>?_
    go_simp;have kc:Bl w4 (w4.alloc (.cells #[.string kk,iT qq,iT d,.string tt,iT nn] 50)):=bZ;have U:Eq (mE R a len cap P2 w (w4.alloc (.cells #[.string kk,iT qq,iT d,.string tt,iT nn] 50)) X (X+1) b q g1 nm c1 G c g3 ns c3 g0 A.length d0 h1 B.length d1 h2 C.length d2 M A B C S):=S5.o.below kc;have x:=qE w4 kk qq d tt nn;clear kc S5;generalize w4.heap.size=gb at x ⊢;generalize w4.alloc (.cells #[.string kk,iT qq,iT d,.string tt,iT nn] 50)=w5 at U x ⊢;refine hK.o _ _ (g.o _ U.o.bx) fun D=>?_
    (try go_frame);refine qY 5 fun K hK=>?_
    have bK:=U.o.bt.mem.len;have aW:=HQ.o;refine fI rfl (.tmp 44) (.tmp 47) 28 rfl w.heap.size 50 i0 _ 5 56 Tryz.underlying28 hi cV cC d3 rfl (by decide) g1 nm c1 _ rfl U.o.bt.mem.owns ⟨gb,0,none⟩ 1 1 [.string kk,iT qq,iT d,.string tt,iT nn] rfl rfl x (by intro u hu;simp at hu;rcases hu with rfl | rfl | rfl | rfl | rfl <;> rfl) (by unfold maxLen;omega) (by omega) U.o.gr.size ?_;intro g8 c8 I Y f N;obtain ⟨⟨s1,kE⟩,_⟩:=U.o.bt.kinds;obtain ⟨y1,y2,y3,y4,y5⟩:=U.o.wrote f kE (by decide) U.o.bt.mem.lt.1;have ah:Eq (aE I X (iT q) (sL g1 nm c1) (sL G 3 c) (sL g3 ns c3)):=y2;have a5:ag I w.heap.size g8 (nm+1) c8 (M++[((kk,qq,d,tt,nn):ae)]):=⟨by rw [aL];exact Y,by rw [Fy,bK];rfl,fun l hl=>by
     rcases FI.1 hl with h | h
     · exact U.o.bt.mem.ents l h
     · rw [FL] at h;subst h;exact gk bz.o⟩
    have bo:Eq (C9 R I (pT g8) (nm+1) c8 (pT G) 3 c (pT g3) ns c3 (M++[((kk,qq,d,tt,nn):ae)]) [A,B,C] S):=by
     have t:=U.o.bt;have E:R<b:=u' F.o.2 t.top.1;exact jK a5 (cH t.row t.mem.owns (by decide) f) ((t.rA.low t.far f).lvQ E) ((t.rB.low t.far f).lvQ E) ((t.rC.low t.far f).lvQ E) (cH t.sn t.mem.owns (by decide) f) t.slen t.swf F.o.2
    have HY:Eq (bj I R a len cap P2∧aE I (X+1) (iT 0) nZ nZ nZ∧(ay I X 31 4∧ay I (X+1) 31 4)∧w.grownBy I (some R)):=⟨y1,y3,y4,y5⟩;have au:Eq _:=U.o.top;clear Y f N kE y1 y2 y3 y4 y5 a5 U x bK aW;refine hK.o _ _ (g.o _ ah.o) fun D=>?_
    (try go_frame);refine ud 6 1 D ?_;refine Ek 7 fun K hK=>?_
    have x0:=ah.o.all;go_simp;refine hK.o _ _ ?_;clear hK K;(try go_frame);refine dZ ?_;clear x0 D g;go_wp2;go_meet
    exact o5 1 _ HY.o.1 (by omega) (ah.o.set1 _) HY.o.2.1 HY.o.2.2.1 (FW (by have:=HQ.o;omega)) bo.o (mG.all ⟨O.o.1.app (fun l hl=>by rw [FL] at hl;subst hl;exact bz.o.1.2.2),O.o.2⟩) HY.o.2.2.2 au.o
  have dy:(k == 1)=false:=by simpa using k1
  by_cases k2:k=2
  · subst k2;have x0:=J.o.bx.all;have dO:(2:Int)≤((3:Nat):Int):=by omega
    have dU:3≤c:=by have:=(cZ J.o.bt.row).1;omega
    have dr:(2:Int)≤(c:Int):=by omega
    have dB:2≤c:=by omega
    go_wp2;go_meet
    have t:=J.o.bt;have E:R<b:=u' F.o.2 t.top.1;exact o5 2 _ J.o.rd (by omega) (J.o.bx.set2 _) J.o.br J.o.kx (FW (by have:=HQ.o;omega)) (Dp t.mem t.row (t.rA.lvQ E) (t.rB.lvQ E) (t.rC.lvQ E) t.sn t.slen t.swf F.o.2) ⟨O.o.1,fun Z hZ=>O.o.all.2 Z (by simp at hZ ⊢;rcases hZ with h | h <;> simp [h])⟩ J.o.gr J.o.top
  have ds:(k == 2)=false:=by simpa using k2
  by_cases k3:k=3
  · subst k3;have g:Eq (∀w',aE w' X (iT q) (sL g1 nm c1) (sL G 3 c) (sL g3 ns c3)→(fun w':World=>w'.cell? ⟨X,0,none⟩=some (iT q)∧w'.cell? ⟨X,1,none⟩=some (sL g1 nm c1)∧w'.cell? ⟨X,2,none⟩=some (sL G 3 c)∧w'.cell? ⟨X,3,none⟩=some (sL g3 ns c3)∧X<w'.heap.size) w'):=fun w' b=>⟨b.c0,b.c1,b.c2,b.c3,b.lt⟩
    have n:Eq (mE R a len cap (P+1) w w3.drew X (X+1) b q g1 nm c1 G c g3 ns c3 g0 A.length d0 h1 B.length d1 h2 C.length d2 M A B C S):=J.o.below (Below.refl _ w3).drew;have bb:IntKind.i64.wrap (q+1)=q+1:=by have:=HQ.o;rw [FQ];unfold wrap64;omega
    clear J;go_upto_region 14 with fail
    refine Ey 13 g n.o.bx fun D=>?_
    generalize w3.drew=wd at D n ⊢;refine ud 0 8 D ?_;refine qY 8 fun K hK=>?_
    go_simp;have kc:Bl wd (wd.alloc (.cells ((([0,q+1,-1,q]:List Int).map iT).toArray) 3)):=bZ;have S5:Eq (mE R a len cap (P+1) w (wd.alloc (.cells ((([0,q+1,-1,q]:List Int).map iT).toArray) 3)) X (X+1) b q g1 nm c1 G c g3 ns c3 g0 A.length d0 h1 B.length d1 h2 C.length d2 M A B C S):=n.o.below kc;have aA:=dH wd 3 [0,q+1,-1,q] Wf (by
     intro s hs;have:=HQ.o;simp only [FF,F4,or_false] at hs;rcases hs with rfl | rfl | rfl | rfl <;> exact FW (by omega))
    have be:wd.heap.size≠R:=by have:=n.o.rd.lt;omega
    have aF:wd.heap.size<(wd.alloc (.cells ((([0,q+1,-1,q]:List Int).map iT).toArray) 3)).heap.size:=by simp
    clear kc n bb;simp only [Gx,GO] at aA aF S5;generalize wd.heap.size=gn at aA be aF ⊢;generalize wd.alloc (.cells [iT 0,iT (q+1),iT (-1),iT q].toArray 3)=w4 at aA aF S5 ⊢;refine hK.o _ _ (g.o _ S5.o.bx) fun D=>?_
    (try go_frame);refine qY 9 fun K hK=>?_
    go_simp;refine (dV Wf R (P+1) a len cap gn 0 4 4 _ S5.o.rd (by omega) (by omega) (by omega) be aF aA).mono ?_;rintro e w5 ⟨z,rfl,hz,aC,az⟩;have U:Eq (mE R a len cap (P+1+1) w w5 X (X+1) b q g1 nm c1 G c g3 ns c3 g0 A.length d0 h1 B.length d1 h2 C.length d2 M A B C S):=S5.o.read az aC;have HZ:Eq (Wf z):=hz;clear hz aC az S5 aA be aF;go_wp2_with fail
    refine hK.o _ _ (g.o _ U.o.bx) fun D=>?_
    (try go_frame);refine qY 10 fun K hK=>?_
    go_simp;have kc:Bl w5 (w5.alloc (.cells #[iT z] 3)):=bZ;have S7:Eq (mE R a len cap (P+1+1) w (w5.alloc (.cells #[iT z] 3)) X (X+1) b q g1 nm c1 G c g3 ns c3 g0 A.length d0 h1 B.length d1 h2 C.length d2 M A B C S):=U.o.below kc;have x:=ew w5 (iT z) 3;clear kc U;generalize w5.heap.size=gb at x ⊢;generalize w5.alloc (.cells #[iT z] 3)=w6 at S7 x ⊢;refine hK.o _ _ (g.o _ S7.o.bx) fun D=>?_
    (try go_frame);refine qY 11 fun K hK=>?_
    have hsl:=S7.o.bt.slen;have aW:=HQ.o;refine fI rfl (.tmp 59) (.tmp 68) 24 rfl w.heap.size 3 j0 _ 1 8 Tryz.underlying24 hj cK cW cy rfl (by decide) g3 ns c3 _ rfl S7.o.bt.sn ⟨gb,0,none⟩ 1 1 [iT z] rfl rfl x (by intro u hu;simp at hu;subst hu;rfl) (by unfold maxLen;omega) (by omega) S7.o.gr.size ?_;intro g8 c8 I Y f N;obtain ⟨_,_,⟨s1,kI⟩,_⟩:=S7.o.bt.kinds;obtain ⟨y1,y2,y3,y4,y5⟩:=S7.o.wrote f kI (by decide) (S7.o.bt.sn.lt g3 rfl).1;have ah:Eq (aE I X (iT q) (sL g1 nm c1) (sL G 3 c) (sL g3 ns c3)):=y2;have bo:Eq (C9 R I (pT g1) nm c1 (pT G) 3 c (pT g8) (ns+1) c8 M [A,B,C] (S++[z])):=by
     have t:=S7.o.bt;have E:R<b:=u' F.o.2 t.top.1;exact jK (dP t.mem t.sn (by decide) f) (cH t.row t.sn (by decide) f) ((t.rA.grown kI (by decide) (by decide) f).lvQ E) ((t.rB.grown kI (by decide) (by decide) f).lvQ E) ((t.rC.grown kI (by decide) (by decide) f).lvQ E) (by rw [GM];exact Y) (by rw [Fy,hsl];rfl) (fun y hy=>by
      rcases FI.1 hy with h | h
      · exact t.swf y h
      · rw [FL] at h;subst h;exact HZ.o) F.o.2
    have HY:Eq (bj I R a len cap (P+1+1)∧aE I (X+1) (iT 0) nZ nZ nZ∧(ay I X 31 4∧ay I (X+1) 31 4)∧w.grownBy I (some R)):=⟨y1,y3,y4,y5⟩;have au:Eq _:=S7.o.top;clear Y f N kI y1 y2 y3 y4 y5 S7 x hsl aW;refine hK.o _ _ (g.o _ ah.o) fun D=>?_
    (try go_frame);refine ud 12 1 D ?_;refine Ek 13 fun K hK=>?_
    have x0:=ah.o.all;go_simp;refine hK.o _ _ ?_;clear hK K;(try go_frame);refine dZ ?_;clear x0 D g;go_wp2;go_meet
    exact o5 3 _ HY.o.1 (by omega) (ah.o.set3 _) HY.o.2.1 HY.o.2.2.1 (FW (by have:=HQ.o;omega)) bo.o O.o.all HY.o.2.2.2 au.o
  have dw:(k == 3)=false:=by simpa using k3
  by_cases k4:k=4
  · subst k4;have x0:=J.o.bx.all;have y0:=J.o.bt.row.cellAt 0 (by omega);have y1:=J.o.bt.row.cellAt 1 (by omega);have y2:=J.o.bt.row.cellAt 2 (by omega);have yf:=J.o.bt.row.frozenAt;have yz:=(J.o.bt.row.lt G rfl).2;simp only [G6,Gw] at y0 y1 y2;have bg:X≠G:=fun e=>by obtain ⟨_,⟨s1,kG⟩,_⟩:=J.o.bt.kinds;rw [← e] at kG;exact absurd (J.o.kx.1.kind kG) (by decide)
    have bd:G≠X:=fun e=>bg e.symm
    have g:Eq (∀w':World,(w'.cell? ⟨X,2,none⟩=some (sL G 3 c)∧X<w'.heap.size∧w'.cell? ⟨G,2,none⟩=some (sL h2 C.length d2)∧G<w'.heap.size)→(fun w':World=>w'.cell? ⟨X,2,none⟩=some (sL G 3 c)∧X<w'.heap.size∧w'.cell? ⟨G,2,none⟩=some (sL h2 C.length d2)∧G<w'.heap.size) w'):=fun _ h=>h
    go_upto_region 17 with fail
    have n:Eq (mE R a len cap (P+1) w w3.drew X (X+1) b q g1 nm c1 G c g3 ns c3 g0 A.length d0 h1 B.length d1 h2 C.length d2 M A B C S):=J.o.below (Below.refl _ w3).drew;clear J x0 y0 y1 y2 yf yz;refine eJ g ⟨n.o.bx.c2,n.o.bx.lt,n.o.bt.row.cellAt 2 (by omega),(n.o.bt.row.lt G rfl).2⟩ fun D=>?_
    generalize w3.drew=wd at D n ⊢;refine aP 0 7 D ?_;refine aQ 7 fun K hK=>?_
    have y0:=n.o.bt.row.cellAt 0 (by omega);have y1:=n.o.bt.row.cellAt 1 (by omega);have y2:=n.o.bt.row.cellAt 2 (by omega);have yf:=n.o.bt.row.frozenAt;have yz:=(n.o.bt.row.lt G rfl).2;simp only [G6,Gw] at y0 y1 y2;go_simp;refine hK.o _ _ ?_ (fun D=>?_)
    · exact ⟨(n.o.bx.other bd _).c2,(n.o.bx.other (o:=0) bd (sL h2 C.length d2)).lt,by rw [Ft _ _ _ _ (by simp)];exact y2,by simpa [World.setCell] using yz⟩
    clear hK K y0 y1 y2;(try go_frame);refine dN ?_;clear D g;have xb:=n.o.bx.other (b':=G) (o:=0) bd (sL h2 C.length d2);have x2:=xb.c2;have xz:=xb.lt;have aV:=(n.o.bt.row.stored 0 (sL h2 C.length d2)).1;have y2:=aV.cellAt 2 (by omega);have yf:=aV.frozenAt;have yz:=(aV.lt G rfl).2;clear aV xb;go_wp2;go_meet
    have t:=n.o.bt;obtain ⟨_,⟨s1,kG⟩,_⟩:=t.kinds;have cA:=(t.row.lt G rfl).1;have s2:=cJ wd G 0 (sL h2 C.length d2);have s3:=cJ (wd.setCell ⟨G,0,none⟩ (sL h2 C.length d2)) G 2 (sL g0 A.length d0);have hg:wd.grownBy _ (some G):=af s2 s3;obtain ⟨z1,z2,z3,z4,z5⟩:=n.o.wrote hg kG (by decide) cA;exact o6 z1 (by omega) z2 z3 z4.2 (FW (by have:=HQ.o;omega)) (t.swap.rdT F.o.2) (mG.all ⟨O.o.1,O.o.2.2.2,O.o.2.2.1,O.o.2.1⟩) z5 ⟨n.o.top.2.1,n.o.top.2.2.2⟩
  have dD:(k == 4)=false:=by simpa using k4
  by_cases k5:k=5
  · subst k5;go_wp2;go_loopw [7] (fun iv wr=>∃(i P' g0 n0 d0 h1 n1 d1 h2 n2 d2:Nat) (A B C:List aj),iv=iT (i:Int)∧i≤5∧P'≤P+1+160*i∧n0≤4+i∧mE R a len cap P' w wr X (X+1) b q g1 nm c1 G c g3 ns c3 g0 n0 d0 h1 n1 d1 h2 n2 d2 M A B C S∧mG M A B C) (fun iv _=>(5 - (intOf iv).toNat))
    case atStart=>exact ⟨0,P+1,g0,A.length,d0,h1,B.length,d1,h2,C.length,d2,A,B,C,rfl,by omega,by omega,by have:=HQ.o;omega,J.o,O.o⟩
    case round =>
     clear J;obtain ⟨i,P',g0,n0,d0,h1,n1,d1,h2,n2,d2,A,B,C,rfl,dt,ck,dI,hS,bH⟩:=hrel;have bD:Eq (mG M A B C):=bH;clear bH;have n:Eq (mE R a len cap P' w wr X (X+1) b q g1 nm c1 G c g3 ns c3 g0 n0 d0 h1 n1 d1 h2 n2 d2 M A B C S):=hS;clear hS;by_cases e6:i<5
     · have bP:(i:Int)<5:=by omega
       have dM:IntKind.i64.wrap ((i:Int)+1)=(i:Int)+1:=by rw [FQ];unfold wrap64;omega
       have g:Eq (∀w',(∃P2,mE R a len cap P2 w w' X (X+1) b q g1 nm c1 G c g3 ns c3 g0 n0 d0 h1 n1 d1 h2 n2 d2 M A B C S)→(fun w':World=>w'.cell? ⟨X,0,none⟩=some (iT q)∧w'.cell? ⟨X,1,none⟩=some (sL g1 nm c1)∧w'.cell? ⟨X,2,none⟩=some (sL G 3 c)∧w'.cell? ⟨X,3,none⟩=some (sL g3 ns c3)∧w'.cell? ⟨G,0,none⟩=some (sL g0 n0 d0)∧X<w'.heap.size∧G<w'.heap.size) w'):=fun w' hb=>by
        obtain ⟨P2,hb⟩:=hb;exact ⟨hb.bx.c0,hb.bx.c1,hb.bx.c2,hb.bx.c3,by have:=hb.bt.row.cellAt 0 (by omega);simpa using this,hb.bx.lt,(hb.bt.row.lt G rfl).2⟩
       have S5:Eq (mE R a len cap P' w wr.drew X (X+1) b q g1 nm c1 G c g3 ns c3 g0 n0 d0 h1 n1 d1 h2 n2 d2 M A B C S):=n.o.below (Below.refl _ wr).drew;clear n;go_upto_region 23 with fail
       refine Ey 13 g ⟨P',S5.o⟩ fun D=>?_
       generalize wr.drew=wd at D S5 ⊢;refine ud 0 3 D ?_;refine ud 4 5 D ?_;refine qY 3 fun K hK=>?_
       go_simp;refine (cu R P' a len cap 3 _ S5.o.rd (by omega) (by omega)).mono ?_;rintro e w4 ⟨kp,rfl,hk,a8,ab⟩;have U:Eq (mE R a len cap (P'+1) w w4 X (X+1) b q g1 nm c1 G c g3 ns c3 g0 n0 d0 h1 n1 d1 h2 n2 d2 M A B C S):=S5.o.read ab a8;have bE:0≤kp∧kp<3:=⟨hk.1,hk.2 (by omega)⟩;obtain ⟨kn,rfl⟩:=Gq bE.1;have cB:kn<3:=by omega
       have dh:(kn:Int)<3:=by omega
       have df:(kn:Int)<((3:Nat):Int):=by omega
       clear hk bE a8 ab S5;go_wp2_with fail
       refine hK.o _ _ (g.o _ ⟨_,U.o⟩) fun D=>?_
       (try go_frame);refine qY 9 fun K hK=>?_
       go_simp;refine (xq R (P'+1) a len cap _ U.o.rd U.o.top.2.2.2.2 (by omega)).mono ?_;rintro e w5 ⟨ge,ne,ce,P3,m,L,rfl,hO,bU,cl,bF,aC,dv,az⟩;have S7:Eq (mE R a len cap P3 w w5 X (X+1) b q g1 nm c1 G c g3 ns c3 g0 n0 d0 h1 n1 d1 h2 n2 d2 M A B C S):=U.o.read az aC;have HO:Eq (ag w5 b ge ne ce L):=hO.mono U.o.bt.top.2;have aU:Eq ((Lit.int .i64 m).wf=true):=bF;have bL:Eq (o9 L):=fun e he=>(cl e he).1.2.2
       clear hO cl bF aC az U bU;go_wp2_with fail
       refine hK.o _ _ (g.o _ ⟨_,S7.o⟩) fun D=>?_
       (try go_frame);refine qY 10 fun K hK=>?_
       go_simp;have kc:Bl w5 (w5.alloc (.cells #[sL ge ne ce,iT m] 63)):=bZ;have S8:Eq (mE R a len cap P3 w (w5.alloc (.cells #[sL ge ne ce,iT m] 63)) X (X+1) b q g1 nm c1 G c g3 ns c3 g0 n0 d0 h1 n1 d1 h2 n2 d2 M A B C S):=S7.o.below kc;have a5:Eq (ag (w5.alloc (.cells #[sL ge ne ce,iT m] 63)) b ge ne ce L):=HO.o.below kc;have x:=bW w5 (sL ge ne ce) (iT m) 63;clear kc S7 HO;generalize w5.heap.size=gb at x ⊢;generalize w5.alloc (.cells #[sL ge ne ce,iT m] 63)=w6 at S8 a5 x ⊢;refine hK.o _ _ (g.o _ ⟨_,S8.o⟩) fun D=>?_
       (try go_frame);refine qY 11 fun K hK=>?_
       have cG:=S8.o.bt.rA;obtain ⟨q1,q2,dq,q3,q4⟩:=cG;refine fI rfl (.tmp 101) (.tmp 104) 61 rfl b 63 l0 _ 2 32 Tryz.underlying61 hl ca bA cd rfl (by decide) g0 n0 d0 _ rfl q3 ⟨gb,0,none⟩ 1 1 [sL ge ne ce,iT m] rfl rfl x (by intro u hu;simp at hu;rcases hu with rfl | rfl <;> rfl) (by unfold maxLen;omega) (by omega) S8.o.bt.top.2 ?_;intro g8 c8 I Y f N;have cO:=a5.o.len;subst cO;have hD:=ia q1 q2 q3 (fun i p hp=>q4 i p hp) a5.o aU.o f Y;obtain ⟨s1,kA⟩:=aS q3;have t:=S8.o.bt;obtain ⟨A',bX,nA⟩:=t.rA.beside t.rA f N a5.o aU.o;obtain ⟨B',bB,nB⟩:=t.rB.beside t.rA f N a5.o aU.o;obtain ⟨C',bV,nC⟩:=t.rC.beside t.rA f N a5.o aU.o;obtain ⟨z1,z2,z3,z4,z5⟩:=S8.o.wrote f kA (by decide) (FK t.top.1 (q3.lt g0 rfl).1);have S9:Eq (mE R a len cap P3 w I X (X+1) b q g1 nm c1 G c g3 ns c3 g0 n0 d0 h1 n1 d1 h2 n2 d2 M A' B' C' S):=⟨z1,z2,z3,z4,⟨dP t.mem q3 (by decide) f,cH t.row q3 (by decide) f,bX,bB,bV,cH t.sn q3 (by decide) f,t.slen,t.swf,t.far,t.top.1,FK t.top.2 f.size⟩,z5,S8.o.top⟩;have bJ:Eq (mG M A' B' C'∧nR (A++[(L,m)])):=by
        have hx:∀{Z Z':List aj},nR Z→(∀p ∈ Z',p ∈ Z∨p=(L,m))→nR Z':=fun h k p hp=>(k p hp).elim (h p) (fun e=>by rw [e];exact bL.o)
        have k:=bD.o;exact ⟨⟨k.1,hx k.2.1 nA,hx k.2.2.1 nB,hx k.2.2.2 nC⟩,k.2.1.app (nR.one bL.o)⟩
       clear nA nB nC;have HD:Eq (bw b I g8 (n0+1) c8 (A++[(L,m)])):=hD;clear q1 q2 q3 q4 Y f N hD kA t bX bB bV z1 z2 z3 z4 z5 S8 a5 x;refine hK.o _ _ (by have hb:=S9.o;exact ⟨hb.bx.c0,hb.bx.c1,hb.bx.c2,hb.bx.c3,by have:=hb.bt.row.cellAt 0 (by omega);simpa using this,hb.bx.lt,(hb.bt.row.lt G rfl).2⟩) fun D=>?_
       (try go_frame);refine ud 12 1 D ?_;refine Ek 13 fun K hK=>?_
       have yc:∃v,I.cell? ⟨G,kn,none⟩=some v:=by
        rcases (by omega:kn=0∨kn=1∨kn=2) with rfl | rfl | rfl
        · exact ⟨_,S9.o.bt.row.cellAt 0 (by omega)⟩
        · exact ⟨_,S9.o.bt.row.cellAt 1 (by omega)⟩
        · exact ⟨_,S9.o.bt.row.cellAt 2 (by omega)⟩
       obtain ⟨yv,yc⟩:=yc;have yf:=S9.o.bt.row.frozenAt;have yz:=(S9.o.bt.row.lt G rfl).2;go_simp;refine hK.o _ _ ?_;clear hK K yc yf yz;(try go_frame);refine dZ ?_;clear D g;go_wp2;go_roundw
       case rel =>
        obtain ⟨a0,m0,d4,a1,m1,cN,a2,m2,cT,A2,B2,C2,hb,H,cx⟩:=S9.o.bt.putL HD.o kn cB (by omega);obtain ⟨_,⟨s1,kG⟩,_⟩:=S9.o.bt.kinds;obtain ⟨z1,z2,z3,z4,z5⟩:=S9.o.wrote (cJ I G kn (sL g8 (n0+1) c8)) kG (by decide) (S9.o.bt.row.lt G rfl).1;exact ⟨i+1,P3,a0,m0,d4,a1,m1,cN,a2,m2,cT,A2,B2,C2,by rw [show ((i+1:Nat):Int)=(i:Int)+1 by omega],by omega,by omega,by omega,⟨z1,z2,z3,z4,hb,z5,S9.o.top⟩,cx bJ.o.1 bJ.o.2⟩
       case measure=>simp [intOf];omega
     · have bP:¬(i:Int)<5:=by omega
       go_wp2_with fail
       go_meet
       have s:=n.o;exact o6 s.rd (by omega) s.bx s.br s.kx.2 (FW (by have:=HQ.o;omega)) (s.bt.rdT F.o.2) bD.o.all s.gr ⟨s.top.2.1,s.top.2.2.2⟩
  have dX:(k == 5)=false:=by simpa using k5
  have g:Eq (∀w',(∃P2,mE R a len cap P2 w w' X (X+1) b q g1 nm c1 G c g3 ns c3 g0 A.length d0 h1 B.length d1 h2 C.length d2 M A B C S)→(fun w':World=>w'.cell? ⟨X,0,none⟩=some (iT q)∧w'.cell? ⟨X,1,none⟩=some (sL g1 nm c1)∧w'.cell? ⟨X,2,none⟩=some (sL G 3 c)∧w'.cell? ⟨X,3,none⟩=some (sL g3 ns c3)∧w'.cell? ⟨G,1,none⟩=some (sL h1 B.length d1)∧X<w'.heap.size∧G<w'.heap.size) w'):=fun w' hb=>by
   obtain ⟨P2,hb⟩:=hb;exact ⟨hb.bx.c0,hb.bx.c1,hb.bx.c2,hb.bx.c3,by have:=hb.bt.row.cellAt 1 (by omega);simpa using this,hb.bx.lt,(hb.bt.row.lt G rfl).2⟩
  have n:Eq (mE R a len cap (P+1) w w3.drew X (X+1) b q g1 nm c1 G c g3 ns c3 g0 A.length d0 h1 B.length d1 h2 C.length d2 M A B C S):=J.o.below (Below.refl _ w3).drew;clear J;go_upto_region 6 with fail
  refine Ey 10 g ⟨_,n.o⟩ fun D=>?_
  generalize w3.drew=wd at D n ⊢;refine ud 0 7 D ?_;refine qY 7 fun K hK=>?_
  go_simp;have kc:Bl wd (wd.alloc (.cells #[nZ,iT 0] 63)):=bZ;have S8:Eq (mE R a len cap (P+1) w (wd.alloc (.cells #[nZ,iT 0] 63)) X (X+1) b q g1 nm c1 G c g3 ns c3 g0 A.length d0 h1 B.length d1 h2 C.length d2 M A B C S):=n.o.below kc;have x:=bW wd nZ (iT 0) 63;clear kc n;generalize wd.heap.size=gb at x ⊢;generalize wd.alloc (.cells #[nZ,iT 0] 63)=w6 at S8 x ⊢;refine hK.o _ _ (g.o _ ⟨_,S8.o⟩) fun D=>?_
  (try go_frame);refine qY 8 fun K hK=>?_
  have cD:=S8.o.bt.rB;obtain ⟨q1,q2,dx,q3,q4⟩:=cD;have aW:=HQ.o;refine fI rfl (.tmp 27) (.tmp 29) 61 rfl b 63 l0 _ 2 32 Tryz.underlying61 hl ca bA cd rfl (by decide) h1 B.length d1 _ rfl q3 ⟨gb,0,none⟩ 1 1 [nZ,iT 0] rfl rfl x (by intro u hu;simp at hu;rcases hu with rfl | rfl <;> rfl) (by unfold maxLen;omega) (by omega) S8.o.bt.top.2 ?_;intro g8 c8 I Y f N;obtain ⟨s1,kB⟩:=aS q3;have t:=S8.o.bt;have E:R<b:=u' F.o.2 t.top.1;have cY:Eq (R<b):=E;obtain ⟨z1,z2,z3,z4,z5⟩:=S8.o.wrote f kB (by decide) (FK t.top.1 (q3.lt h1 rfl).1);have HM:Eq (ag I w.heap.size g1 nm c1 M):=dP t.mem q3 (by decide) f;have T:Eq (I.ownsRow w.heap.size 61 1 (sL G 3 c) 3 [sL g0 A.length d0,sL h1 B.length d1,sL h2 C.length d2]):=cH t.row q3 (by decide) f;have cF:Eq (∀v,AO R (I.setCell ⟨G,1,none⟩ v) (pT g8) (B.length+1) c8 (B++[([],0)])):=fun v=>Dv q1 q2 q3 q4 (fun {e d L} hO=>dP (hO.grown f (fun e'=>by
   obtain ⟨s4,k4⟩:=aS hO.owns;have cR:e=h1:=Fx e';rw [cR] at k4;exact absurd (kB.kind k4) (by decide))) T.o (by decide) (cJ _ _ _ _)) (cH Y T.o (by decide) (cJ _ _ _ _)) E
  have cg:Eq (bw b I g0 A.length d0 A∧bw b I h2 C.length d2 C):=⟨t.rA.grownR kB (fun e=>cf.o.1 e.symm) f,t.rC.grownR kB (fun e=>cf.o.2 e.symm) f⟩;have bf:Eq (I.ownsRow w.heap.size 3 1 (sL g3 ns c3) ns (S.map iT)∧S.length=ns∧∀z ∈ S,(Lit.int .i64 z).wf=true):=⟨cH t.sn q3 (by decide) f,t.slen,t.swf⟩;have c6:Eq (aE I X (iT q) (sL g1 nm c1) (sL G 3 c) (sL g3 ns c3)):=z2;have HZ:Eq (bj I R a len cap (P+1)∧aE I (X+1) (iT 0) nZ nZ nZ∧(ay I X 31 4∧ay I (X+1) 31 4)∧w.grownBy I (some R)):=⟨z1,z3,z4,z5⟩;have au:Eq (w.heap.size≤X∧w.heap.size≤X+1∧X≠X+1∧R<w.heap.size∧sY a len R):=S8.o.top;clear q1 q2 q3 q4 Y f N kB t z1 z2 z3 z4 z5 S8 x E;refine hK.o _ _ (by have hb:=c6.o;exact ⟨hb.c0,hb.c1,hb.c2,hb.c3,by have:=T.o.cellAt 1 (by omega);simpa using this,hb.lt,(T.o.lt G rfl).2⟩) fun D=>?_
  (try go_frame);refine ud 9 1 D ?_;refine Ek 10 fun K hK=>?_
  have y1:=T.o.cellAt 1 (by omega);have yf:=T.o.frozenAt;have yz:=(T.o.lt G rfl).2;simp only [G6,Gw] at y1;go_simp;refine hK.o _ _ ?_;clear hK K y1 yf yz;(try go_frame);refine dZ ?_;clear D g;go_wp2;go_meet
  obtain ⟨s1,kG⟩:=aS T.o;have sg:=cJ I G 1 (sL g8 (B.length+1) c8);have bg:X≠G:=fun e=>by rw [← e] at kG;exact absurd (HZ.o.2.2.1.1.kind kG) (by decide)
  have b2:X+1≠G:=fun e=>by rw [← e] at kG;exact absurd (HZ.o.2.2.1.2.kind kG) (by decide)
  have H:=(T.o.lt G rfl).1;have hT:=au.o;refine o6 (HZ.o.1.grown sg hT.2.2.2.2 (fun k e=>by cases e;omega)) (by omega) (c6.o.grownB sg bg) (HZ.o.2.1.grownB sg b2) (HZ.o.2.2.1.2.grown sg b2) (FW (by have:=HQ.o;omega)) (M:=M) (V:=[A,B++[([],0)],C]) (S:=S) ?_ (mG.all ⟨O.o.1,O.o.2.1,O.o.2.2.1.app (nR.one tu),O.o.2.2.2⟩) (aI HZ.o.2.2.2 H sg) ⟨hT.2.1,hT.2.2.2⟩;have E:=cY.o;exact jK (dP HM.o T.o (by decide) sg) (T.o.stored 1 (sL g8 (B.length+1) c8)).1 ((cg.o.1.grown kG (by decide) (by decide) sg).lvQ E) (cF.o _) ((cg.o.2.grown kG (by decide) (by decide) sg).lvQ E) (cH bf.o.1 T.o (by decide) sg) bf.o.2.1 bf.o.2.2 F.o.2
 case rest =>
  obtain ⟨P',q,am,nm,cm,av,nv,cv,ak,ns,cs,cr,ck,bC,bi,cb,ba,bM,cq,bN⟩:=hcut;have cz:Eq (qL (.agg #[iT q,.slice am nm cm,.slice av nv cv,.slice ak ns cs])):=bN;have HA:Eq (eI lo R wc (.agg #[iT q,.slice am nm cm,.slice av nv cv,.slice ak ns cs])):=ba;have bT:Eq (aE wc (X+1) (iT 0) nZ nZ nZ):=bi;have HY:Eq (bj wc R a len cap P'∧ay wc (X+1) 31 4∧w.grownBy wc (some R)∧w.heap.size≤X+1∧R<w.heap.size∧sY a len R):=⟨cr,cb,bM,cq⟩;have x0:=bC.all;have r0:=bi.all;clear cr bC bi cb ba bM cq bN J;go_wp2;refine bodyPost_ret (v:=.agg #[iT q,.slice am nm cm,.slice av nv cv,.slice ak ns cs]) ?_ rfl ⟨_,P',rfl,HA.o.four HY.o.2.1 bT.o,?_,ck,?_,fun _=>cz.o⟩
  · have e:=(((bT.o.set0 (iT q)).set1 (.slice am nm cm)).set2 (.slice av nv cv)).set3 (.slice ak ns cs);simp [results,Tryz.results76,go_sem,e.all]
  · have ht:=HY.o.2.2.2;have Q:X+1≠R:=by omega
    have r:∀b a3,a=some ⟨b,a3,none⟩→0<len→b≠X+1:=fun b a3 e hl=>by
     rcases ht.2.2 with h0 | h0
     · omega
     · have:=h0 b a3 e;omega
    exact (((HY.o.1.other Q r _ _).other Q r _ _).other Q r _ _).other Q r _ _
  · have H:w.heap.size≤X+1:=HY.o.2.2.2.1;exact aI (aI (aI (aI HY.o.2.2.1 H (cJ _ _ _ _)) H (cJ _ _ _ _)) H (cJ _ _ _ _)) H (cJ _ _ _ _)
end Go.Proofs.YtpobkmjicbobdaaGreat
