/- Walks. -/
import Derived.Test.YtpobkmjicbobdaaGreatBc30
import Derived.Ground.SlsfProg
namespace Go.Proofs.YtpobkmjicbobdaaGreat
set_option maxRecDepth 100000
set_option maxHeartbeats 40000000
open Go.RowKit Go.Shelf Go.Sort
variable {P R X cap cm cs cv g len lo n nm ns nv:Nat} {V:List (List aj)} {a ak am av:Option Addr} {q:Int} {w w' wi wj:World}
def Fh (R:Nat) (a:Option Addr) (len cap P d:Nat) (w:World) (e:Ending) (w':World):Prop:=∃q am nm cm av nv cv ak ns cs P',e=.returned (.agg #[iT q,.slice am nm cm,.slice av nv cv,.slice ak ns cs])∧eI w.heap.size R w' (.agg #[iT q,.slice am nm cm,.slice av nv cv,.slice ak ns cs])∧bj w' R a len cap P'∧P'≤P+d∧w.grownBy w' (some R)∧qL (.agg #[iT q,.slice am nm cm,.slice av nv cv,.slice ak ns cs])
theorem eI.low {b:Nat} {v:Value} (h:eI lo R w v) (hl:b≤lo):eI b R w v:=by
 rcases h with h | h
 · obtain ⟨q,am,nm,cm,G,c,ak,ns,cs,m,s,e1,r,f,e2,n2,o,M,A,B,C,S,e,d,htb⟩:=h;exact .inl ⟨q,am,nm,cm,G,c,ak,ns,cs,m,s,e1,r,f,e2,n2,o,M,A,B,C,S,e,d.mono hl,htb⟩
 · exact .inr h
theorem xj (R P:Nat) (a:Option Addr) (len cap:Nat) (w:World) (h:bj w R a len cap P) (u:sY a len R) (hP:P<60000) :
 Calls Tryz.prog 78 #[.pointer (pT R)] w (Fh R a len cap P 7000 w):=by
 obtain ⟨Z,T⟩:=aG w.heap.size;obtain ⟨W,U⟩:=aG (w.alloc (.cells #[iT 0,nZ,nZ,nZ] 31));have kW:Bl w W:=by rw [U];exact bZ
 have br:aE W Z (iT 0) nZ nZ nZ∧ay W Z 31 4:=by rw [U,T];exact ⟨aE.new _ _ _ _ _ _,cP w #[iT 0,nZ,nZ,nZ] 31⟩
 have L:=h.lt;have F:Eq (w.heap.size≤Z∧R<w.heap.size∧sY a len R):=⟨Nat.le_of_eq T.symm,L,u⟩;have N:Eq (bj W R a len cap P):=h.below kW;have y:Eq (Bl w W):=kW;have x:Eq (aE W Z (iT 0) nZ nZ nZ∧ay W Z 31 4):=br;clear h u br kW L;go_enter Tryz.func78,Tryz.ntmps78
 go_wp2_with fail
 rw [← U,← T];clear U T;refine (xi R P a len cap W N.o F.o.2.2 hP).mono ?_;rintro e Y ⟨v,P1,rfl,A,J,a6,m,Q,_⟩;obtain ⟨q,am,nm,cm,av,nv,cv,ak,ns,cs,rfl⟩:=A.val;have H:Eq (W.grownBy Y (some R)):=m;have d:Z≠R:=by have:=F.o;omega
 have C:Eq (aE Y Z (iT 0) nZ nZ nZ∧ay Y Z 31 4):=⟨x.o.1.grownB m d,x.o.2.grown m d⟩;go_wp2_with fail
 refine (xm R P1 W.heap.size a len cap _ Y J F.o.2.2 (by omega) (by have:=y.o.size;have:=F.o;omega) m.size A).mono ?_;rintro e I ⟨v,P2,rfl,B,O,a8,r,K⟩;have D:=K Q;clear K Q;obtain ⟨q,am,nm,cm,av,nv,cv,ak,ns,cs,rfl⟩:=B.val;have D:Eq (qL (.agg #[iT q,.slice am nm cm,.slice av nv cv,.slice ak ns cs])):=D;have t:Eq (aE I Z (iT 0) nZ nZ nZ∧ay I Z 31 4):=⟨C.o.1.grownB r d,C.o.2.grown r d⟩;have a0:Eq (eI W.heap.size R I (.agg #[iT q,.slice am nm cm,.slice av nv cv,.slice ak ns cs])):=B;have HY:Eq (bj I R a len cap P2∧w.grownBy I (some R)):=⟨O,af (aT y.o) (af H.o r)⟩;have a1:P2≤P+7000:=by omega
 have r0:=t.o.1.all;clear B O r A J m C H x N;go_wp2;refine bodyPost_ret (v:=.agg #[iT q,.slice am nm cm,.slice av nv cv,.slice ak ns cs]) ?_ rfl ⟨q,am,nm,cm,av,nv,cv,ak,ns,cs,P2,rfl,(a0.o.four t.o.2 t.o.1).low y.o.size,?_,a1,?_,D.o⟩
 · have e:=(((t.o.1.set0 (iT q)).set1 (.slice am nm cm)).set2 (.slice av nv cv)).set3 (.slice ak ns cs);simp [results,Tryz.results78,go_sem,e.all]
 · have f:∀b E,a=some ⟨b,E,none⟩→0<len→b≠Z:=fun b E e hl=>by
    have:=F.o;rcases this.2.2 with h0 | h0
    · omega
    · have:=h0 b E e;omega
   exact (((HY.o.1.other d f _ _).other d f _ _).other d f _ _).other d f _ _
 · have s:w.heap.size≤Z:=F.o.1;exact aI (aI (aI (aI HY.o.2 s (cJ _ _ _ _)) s (cJ _ _ _ _)) s (cJ _ _ _ _)) s (cJ _ _ _ _)
def qK (w:World) (q:Int) (am:Option Addr) (nm cm:Nat) (av:Option Addr) (nv cv:Nat) (ak:Option Addr) (ns cs:Nat) (M:List ae) (V:List (List aj)) (S:List Int):Prop:=(Lit.int .i64 q).wf=true∧cj 0 w am nm cm av nv cv ak ns cs M V S∧qP w av V∧(∃g,ak=some ⟨g,0,none⟩)∧∃g,am=some ⟨g,0,none⟩
theorem qP.keep (h:qP w av V) (hb:Bl w w'):qP w' av V:=fun i B hB=>by
 obtain ⟨b,e,n,c,h1,h2⟩:=h i B hB
 exact ⟨b,e,n,c,h1,cell_later hb h2⟩
theorem qK.keep {M:List ae} {S:List Int} (h:qK w q am nm cm av nv cv ak ns cs M V S) (hb:Bl w w'):qK w' q am nm cm av nv cv ak ns cs M V S:=⟨h.1,h.2.1.keep hb,h.2.2.1.keep hb,h.2.2.2⟩
structure rq (w wi:World) (R X:Nat) (a:Option Addr) (len cap P:Nat):Prop where
 rd:bj wi R a len cap P
 low:sY a len R
 bx:aE wi X (iT 0) nZ nZ nZ
 kx:ay wi X 31 4
 bl:Bl w wi
 top:w.heap.size≤X∧X<R
theorem rq.below (h:rq w wi R X a len cap P) (hb:Bl wi wj):rq w wj R X a len cap P :=
 ⟨h.rd.below hb,h.low,h.bx.keep hb,h.kx.below hb,h.bl.trans (hb.mono h.bl.size),h.top⟩
theorem rq.read {P':Nat} (h:rq w wi R X a len cap P) (hg:wi.grownBy wj (some R)) (hr:bj wj R a len cap P'):rq w wj R X a len cap P' :=
 have e:X≠R:=by have:=h.top;omega
 ⟨hr,h.low,h.bx.grownB hg e,h.kx.grown hg e,h.bl.grown hg h.bl.size (fun k e=>by cases e;have:=h.top;omega),h.top⟩
theorem vu {W:World} (r:Bl w W) (o:len=0∨∃b d,a=some ⟨b,d,none⟩∧b<w.heap.size∧∀i,i<len→∃z:Nat,z≤255∧w.cell? ⟨b,d+i,none⟩=some (.int .u8 z)):len=0∨∃b d,a=some ⟨b,d,none⟩∧b<W.heap.size∧∀i,i<len→∃z:Nat,z≤255∧W.cell? ⟨b,d+i,none⟩=some (.int .u8 z):=by
 rcases o with h0 | ⟨b,d,ha,e,m⟩
 · exact Or.inl h0
 · exact Or.inr ⟨b,d,ha,u' e r.size,fun i hi=>by obtain ⟨z,hz,f⟩:=m i hi;exact ⟨z,hz,cell_later r f⟩⟩
theorem BL {d:World} (h:bj d R a len cap P) (hs:d.heap.size=R+1):sY a len R:=by
 rcases h.bytes with h0 | ⟨b,m,ha,h1,h2,_⟩
 · exact Or.inl h0
 · exact Or.inr (fun b' f e=>by rw [ha] at e;cases e;omega)
def Fk (w:World) (e:Ending) (w':World):Prop:=∃q am nm cm av nv cv ak ns cs M V S,∃(key:ByteArray) (sq:Int),e=.returned (.tuple #[.agg #[iT q,.slice am nm cm,.slice av nv cv,.slice ak ns cs],.string key,iT sq])∧(qK w' q am nm cm av nv cv ak ns cs M V S∧EG M V)∧Bl w w'
theorem eI.treK (h:eI lo R w (.agg #[iT q,.slice am nm cm,.slice av nv cv,.slice ak ns cs])) (hk:ay w X 31 4) (u:aE w X (iT 0) nZ nZ nZ) (hs:qL (.agg #[iT q,.slice am nm cm,.slice av nv cv,.slice ak ns cs])) (u0:Int) (a1 a2 a3:Option Addr) (m1 k1 m2 k2 m3 k3:Nat):∃M V S,qK ((((w.setCell ⟨X,0,none⟩ (iT u0)).setCell ⟨X,1,none⟩ (.slice a1 m1 k1)).setCell ⟨X,2,none⟩ (.slice a2 m2 k2)).setCell ⟨X,3,none⟩ (.slice a3 m3 k3)) q am nm cm av nv cv ak ns cs M V S∧EG M V:=by
 obtain ⟨B,m,o,b,r,A,t,s,f,y,M,V,S,e,h1,h2,h3,_,h5⟩:=(h.four hk u).treeIn;cases e;obtain ⟨_,d,_,_,_,_,_,x,_,_,e⟩:=hs;exact ⟨M,V,S,⟨h1,h2,h3,⟨x,by simp at e;simp [e]⟩,⟨d,by simp at e;simp [e]⟩⟩,h5⟩
theorem AH (h:eI lo R w (.agg #[iT q,.slice am nm cm,.slice av nv cv,.slice ak ns cs])):∃S,b6 0 w ak ns cs S:=by
 obtain ⟨x,f,r,b,o,s,u,t,d,m,M,T,S,e,_,h2,_⟩:=h.treeIn;cases e;exact ⟨S,h2.snaps⟩
theorem vG (h:eI lo R w (.agg #[iT q,.slice am nm cm,.slice av nv cv,.slice ak ns cs])) {j:Nat} (e:j<ns):∃b d z,ak=some ⟨b,d,none⟩∧w.cell? ⟨b,d+j,none⟩=some (iT z)∧b<w.heap.size:=by
 obtain ⟨S,hS⟩:=AH h;obtain ⟨b,d,rfl,hb⟩:=hS.form (by omega);obtain ⟨z,_,_,hz⟩:=hS.num (Below.refl _ w) j e;exact ⟨b,d,z,rfl,hz,hb⟩
theorem D7 (h:eI lo R w (.agg #[iT q,.slice am nm cm,.slice av nv cv,.slice ak ns cs])):Wf q:=by
 obtain ⟨x,f,r,b,o,s,u,t,d,m,M,T,S,e,h1,_⟩:=h.treeIn;cases e;exact h1
theorem qv (a:Option Addr) (len cap:Nat) (w:World) (hb:lc w a len cap) :
 Calls Tryz.prog 38 #[.slice a len cap] w (Fk w):=by
 obtain ⟨X,hX⟩:=aG w.heap.size;obtain ⟨W,hW⟩:=aG (w.alloc (.cells #[iT 0,nZ,nZ,nZ] 31));have kW:Bl w W:=by rw [hW];exact bZ
 have br:aE W X (iT 0) nZ nZ nZ∧ay W X 31 4:=by rw [hW,hX];exact ⟨aE.new _ _ _ _ _ _,cP w #[iT 0,nZ,nZ,nZ] 31⟩
 obtain ⟨aW,b1,aS⟩:=hb;have aB:=vu kW aS;have HK:Eq (w.heap.size≤X∧X<W.heap.size∧Bl w W):=⟨Nat.le_of_eq hX.symm,br.1.lt,kW⟩;have HB:Eq (aE W X (iT 0) nZ nZ nZ∧ay W X 31 4):=br;clear br kW aS;go_enter Tryz.func38,Tryz.ntmps38
 go_wp2_with fail
 rw [← hW];try rw [← hX]
 clear hW hX;refine (xh a len cap _ aW b1 aB).mono ?_;rintro e L ⟨d,rfl,aA,au,a9⟩;obtain ⟨R,hR⟩:=aG W.heap.size;rw [← hR] at aA a9;rw [← hR];have S1:Eq (rq w L R X a d cap 0):=⟨aA,BL aA a9,HB.o.1.keep au,HB.o.2.below au,HK.o.2.2.trans (au.mono HK.o.2.2.size),HK.o.1,by rw [hR];exact HK.o.2.1⟩;clear aW b1 aB aA au a9 hR HK HB;go_wp2_with fail
 refine (xj R 0 a d cap L S1.o.rd S1.o.low (by omega)).mono ?_;rintro e w2 ⟨q,am,nm,cm,av,nv,cv,ak,ns,cs,E,rfl,aV,aY,bt,aL,b0⟩;have ap:Eq (qL (.agg #[iT q,.slice am nm cm,.slice av nv cv,.slice ak ns cs])):=b0;have S2:Eq (rq w w2 R X a d cap E):=S1.o.read aL aY;have aR:Eq (eI L.heap.size R w2 (.agg #[iT q,.slice am nm cm,.slice av nv cv,.slice ak ns cs])):=aV;have a5:Eq (R<L.heap.size∧L.heap.size≤w2.heap.size):=⟨S1.o.rd.lt,aL.size⟩;clear S1 aV aY aL b0;obtain ⟨Y,hY⟩:=aG w2.heap.size;obtain ⟨w3,az⟩:=aG (w2.alloc (.cells #[iT q,.slice am nm cm,.slice av nv cv,.slice ak ns cs] 31));have k3:Bl w2 w3:=by rw [az];exact bZ
 have b5:Eq (aE w3 Y (iT q) (.slice am nm cm) (.slice av nv cv) (.slice ak ns cs)):=by rw [az,hY];exact aE.new _ _ _ _ _ _
 have S3:Eq (rq w w3 R X a d cap E):=S2.o.below k3;have b7:Eq (eI L.heap.size R w3 (.agg #[iT q,.slice am nm cm,.slice av nv cv,.slice ak ns cs])):=aR.o.below k3;have aw:Eq (X<Y∧R<Y∧R<w3.heap.size):=by have:=S2.o.rd.lt;have:=S2.o.top;have:=S3.o.rd.lt;exact ⟨by omega,by omega,this⟩
 clear S2 aR k3;go_upto_region 3 with fail
 rw [← az];try rw [← hY]
 clear az hY;have a4:Y≠R:=by have:=aw.o;omega
 go_wp2_with fail
 refine (sa R E a d cap _ S3.o.rd (by omega)).mono ?_;rintro e wk ⟨key,rfl,_,b6,ar⟩;have SK:Eq (rq w wk R X a d cap (E+1)):=S3.o.read ar b6;have aq:Eq (eI L.heap.size R wk (.agg #[iT q,.slice am nm cm,.slice av nv cv,.slice ak ns cs])):=b7.o.read S3.o.rd a5.o.1 ar;have a0:Eq (aE wk Y (iT q) (.slice am nm cm) (.slice av nv cv) (.slice ak ns cs)):=b5.o.grownB ar a4;clear b6 ar S3 b7 b5;go_upto_region 4 with fail
 have f:Eq (∀w',aE w' Y (iT q) (.slice am nm cm) (.slice av nv cv) (.slice ak ns cs)→(fun w':World=>w'.cell? ⟨Y,0,none⟩=some (iT q)∧w'.cell? ⟨Y,1,none⟩=some (.slice am nm cm)∧w'.cell? ⟨Y,2,none⟩=some (.slice av nv cv)∧w'.cell? ⟨Y,3,none⟩=some (.slice ak ns cs)∧Y<w'.heap.size) w'):=fun w' b=>⟨b.c0,b.c1,b.c2,b.c3,b.lt⟩
 have x3:=a0.o.c3;have xz:=a0.o.lt;by_cases b2:0<ns
 · have bg:(ns:Int) > 0:=by omega
   go_wp2_with fail
   clear x3 xz;refine (cu R (E+1) a d cap 2 _ SK.o.rd (by omega) (by omega)).mono ?_;rintro e N ⟨z,rfl,bj,aO,al⟩;have S4:Eq (rq w N R X a d cap (E+1+1)):=SK.o.read al aO;have aj:Eq (eI L.heap.size R N (.agg #[iT q,.slice am nm cm,.slice av nv cv,.slice ak ns cs])):=aq.o.read SK.o.rd a5.o.1 al;have ax:Eq (aE N Y (iT q) (.slice am nm cm) (.slice av nv cv) (.slice ak ns cs)):=a0.o.grownB al a4;clear aO al SK aq a0 bj;by_cases aZ:z=0
   · subst aZ;go_upto_region 5 with fail
     have U:=(Below.refl N.heap.size N).drew;have aH:Eq (rq w N.drew R X a d cap (E+1+1)):=S4.o.below U;have Z:Eq (eI L.heap.size R N.drew (.agg #[iT q,.slice am nm cm,.slice av nv cv,.slice ak ns cs])):=aj.o.below U;have an:Eq (aE N.drew Y (iT q) (.slice am nm cm) (.slice av nv cv) (.slice ak ns cs)):=ax.o.keep U;clear U S4 aj ax;refine eJ f an.o fun t=>?_
     generalize N.drew=m at t aH Z an ⊢;obtain ⟨b,D,z9,rfl,aT⟩:=vG Z.o b2;have u:Eq (rq w m R X a d cap (E+1+1)):=aH.o;have B:Eq (eI L.heap.size R m (.agg #[iT q,.slice am nm cm,.slice av nv cv,sO b D ns cs])):=Z.o;have BY:Eq (aE m Y (iT q) (.slice am nm cm) (.slice av nv cv) (sO b D ns cs)):=an.o;have HZ:Eq (m.cell? ⟨b,D,none⟩=some (iT z9)∧b<m.heap.size):=aT;clear aT aH Z an;refine aP 0 5 t ?_;have x:Eq (∀u0 u1 u2 u3,aE ((((m.setCell ⟨X,0,none⟩ u0).setCell ⟨X,1,none⟩ u1).setCell ⟨X,2,none⟩ u2).setCell ⟨X,3,none⟩ u3) Y (iT q) (.slice am nm cm) (.slice av nv cv) (sO b D ns cs)):=fun u0 u1 u2 u3=>by
      have r:X≠Y:=by have:=aw.o;omega
      exact (((BY.o.other r _).other r _).other r _).other r _
     refine lg 5 6 (fun K hK=>?_) (fun K hK=>?_)
     · have hz:=HZ.o.1;have aI:=HZ.o.2;go_simp;clear hz aI;refine hK.o _ _ (f.o _ BY.o) fun t=>?_
       (try go_frame);refine aQ 6 fun K hK=>?_
       have r0:=u.o.bx.all;go_simp;refine hK.o _ _ (f.o _ (x.o _ _ _ _)) (fun t=>?_);clear hK K r0;(try go_frame);refine aP 7 2 t ?_;refine dN ?_;clear t f x;go_wp2;obtain ⟨M,T,S,hT⟩:=B.o.treK u.o.kx u.o.bx ap.o q am av (some ⟨b,D,none⟩) nm cm nv cv ns cs;refine bodyPost_ret (v:=.tuple #[.agg #[iT q,.slice am nm cm,.slice av nv cv,sO b D ns cs],.string key,iT z9]) ?_ rfl ⟨q,am,nm,cm,av,nv,cv,_,ns,cs,M,T,S,key,z9,rfl,hT,((((u.o.bl.setCell (p:=⟨X,0,none⟩) u.o.top.1 _).setCell (p:=⟨X,1,none⟩) u.o.top.1 _).setCell (p:=⟨X,2,none⟩) u.o.top.1 _).setCell (p:=⟨X,3,none⟩) u.o.top.1 _)⟩;have e:=(((u.o.bx.set0 (iT q)).set1 (.slice am nm cm)).set2 (.slice av nv cv)).set3 (sO b D ns cs);simp [results,Tryz.results38,go_sem,e.all]
     · have r0:=u.o.bx.all;go_simp;refine hK.o _ _ (f.o _ (x.o _ _ _ _)) (fun t=>?_);clear hK K r0;(try go_frame);obtain ⟨b8,bm,z8,e8,ag⟩:=vG (B.o.four u.o.kx u.o.bx (q:=q) (a1:=am) (m1:=nm) (k1:=cm) (a2:=av) (m2:=nv) (k2:=cv) (a3:=some ⟨b,D,none⟩) (m3:=ns) (k3:=cs)) b2;cases e8;rw [Gv] at ag;refine aP 7 1 t ?_;refine aQ 5 fun K hK=>?_
       have hz:=ag.1;have aI:=ag.2;have hzs:=HZ.o.2;go_simp;refine hK.o _ _ (f.o _ (x.o _ _ _ _)) (fun t=>?_);clear hK K hz aI hzs ag;(try go_frame);refine aP 8 1 t ?_;refine dN ?_;clear t f x;go_wp2;obtain ⟨M,T,S,hT⟩:=B.o.treK u.o.kx u.o.bx ap.o q am av (some ⟨b,D,none⟩) nm cm nv cv ns cs;refine bodyPost_ret (v:=.tuple #[.agg #[iT q,.slice am nm cm,.slice av nv cv,sO b D ns cs],.string key,iT z8]) ?_ rfl ⟨q,am,nm,cm,av,nv,cv,_,ns,cs,M,T,S,key,z8,rfl,hT,((((u.o.bl.setCell (p:=⟨X,0,none⟩) u.o.top.1 _).setCell (p:=⟨X,1,none⟩) u.o.top.1 _).setCell (p:=⟨X,2,none⟩) u.o.top.1 _).setCell (p:=⟨X,3,none⟩) u.o.top.1 _)⟩;have e:=(((u.o.bx.set0 (iT q)).set1 (.slice am nm cm)).set2 (.slice av nv cv)).set3 (sO b D ns cs);simp [results,Tryz.results38,go_sem,e.all]
   · have bq:(z == 0)=false:=by simpa using aZ
     go_upto_region 6 with fail
     have U:=(Below.refl N.heap.size N).drew;have S8:Eq (rq w N.drew R X a d cap (E+1+1)):=S4.o.below U;have Q:Eq (eI L.heap.size R N.drew (.agg #[iT q,.slice am nm cm,.slice av nv cv,.slice ak ns cs])):=aj.o.below U;have BY:Eq (aE N.drew Y (iT q) (.slice am nm cm) (.slice av nv cv) (.slice ak ns cs)):=ax.o.keep U;clear U S4 aj ax;refine eJ f BY.o fun t=>?_
     generalize N.drew=wd at t S8 Q BY ⊢;refine aP 0 8 t ?_;refine aQ 8 fun K hK=>?_
     go_simp;refine (cu R (E+1+1) a d cap 40 _ S8.o.rd (by omega) (by omega)).mono ?_;rintro e m ⟨z,rfl,hz,af,J⟩;have ab:Wf z:=by have:=hz.1;have:=hz.2 (by omega);exact FW (by omega)
     have u:Eq (rq w m R X a d cap ((E+1+1)+1)):=S8.o.read J af;have B:Eq (eI L.heap.size R m (.agg #[iT q,.slice am nm cm,.slice av nv cv,.slice ak ns cs])):=Q.o.read S8.o.rd a5.o.1 J;have B5:Eq (aE m Y (iT q) (.slice am nm cm) (.slice av nv cv) (.slice ak ns cs)):=BY.o.grownB J a4;have aJ:Eq (Wf z):=ab;clear BY hz af J S8 Q ab;go_wp2_with fail
     refine hK.o _ _ (f.o _ B5.o) fun t=>?_
     (try go_frame);refine aQ 9 fun K hK=>?_
     go_simp;have kc:Bl m (m.alloc (.cells ((([q,q,z,0,-1]:List Int).map iT).toArray) 3)):=bZ;have S6:Eq (rq w (m.alloc (.cells ((([q,q,z,0,-1]:List Int).map iT).toArray) 3)) R X a d cap ((E+1+1)+1)):=u.o.below kc;have F:Eq (eI L.heap.size R (m.alloc (.cells ((([q,q,z,0,-1]:List Int).map iT).toArray) 3)) (.agg #[iT q,.slice am nm cm,.slice av nv cv,.slice ak ns cs])):=B.o.below kc;have B6:Eq (aE (m.alloc (.cells ((([q,q,z,0,-1]:List Int).map iT).toArray) 3)) Y (iT q) (.slice am nm cm) (.slice av nv cv) (.slice ak ns cs)):=B5.o.keep kc;have A:=dH m 3 [q,q,z,0,-1] Wf (by
      intro s hs;have ae:=D7 B.o;simp only [FF,F4,or_false] at hs;rcases hs with rfl | rfl | rfl | rfl | rfl
      · exact ae
      · exact ae
      · exact aJ.o
      · exact FW (by omega)
      · exact FW (by omega))
     have O:m.heap.size≠R:=by have:=u.o.rd.lt;omega
     have C:m.heap.size<(m.alloc (.cells ((([q,q,z,0,-1]:List Int).map iT).toArray) 3)).heap.size:=by simp
     clear kc u B B5;simp only [Gx,GO] at A C S6 F B6;generalize m.heap.size=gn at A O C ⊢;generalize m.alloc (.cells [iT q,iT q,iT z,iT 0,iT (-1)].toArray 3)=w6 at A C S6 F B6 ⊢;refine hK.o _ _ (f.o _ B6.o) fun t=>?_
     (try go_frame);refine aQ 10 fun K hK=>?_
     go_simp;refine (dV Wf R ((E+1+1)+1) a d cap gn 0 5 5 _ S6.o.rd (by omega) (by omega) (by omega) O C A).mono ?_;rintro e w7 ⟨y,rfl,_,ad,H⟩;have I:Eq (rq w w7 R X a d cap (((E+1+1)+1)+1)):=S6.o.read H ad;have aK:Eq (eI L.heap.size R w7 (.agg #[iT q,.slice am nm cm,.slice av nv cv,.slice ak ns cs])):=F.o.read S6.o.rd a5.o.1 H;have B7:Eq (aE w7 Y (iT q) (.slice am nm cm) (.slice av nv cv) (.slice ak ns cs)):=B6.o.grownB H a4;clear ad H S6 F B6 A O C;go_wp2_with fail
     refine hK.o _ _ (f.o _ B7.o) fun t=>?_
     (try go_frame);have x:Eq (∀u0 u1 u2 u3,aE ((((w7.setCell ⟨X,0,none⟩ u0).setCell ⟨X,1,none⟩ u1).setCell ⟨X,2,none⟩ u2).setCell ⟨X,3,none⟩ u3) Y (iT q) (.slice am nm cm) (.slice av nv cv) (.slice ak ns cs)):=fun u0 u1 u2 u3=>by
      have r:X≠Y:=by have:=aw.o;omega
      exact (((B7.o.other r _).other r _).other r _).other r _
     refine aQ 11 fun K hK=>?_
     have r0:=I.o.bx.all;go_simp;refine hK.o _ _ (f.o _ (x.o _ _ _ _)) (fun t=>?_);clear hK K r0;(try go_frame);refine aP 12 2 t ?_;refine dN ?_;clear t f x;go_wp2;obtain ⟨M,T,S,hT⟩:=aK.o.treK I.o.kx I.o.bx ap.o q am av ak nm cm nv cv ns cs;refine bodyPost_ret (v:=.tuple #[.agg #[iT q,.slice am nm cm,.slice av nv cv,.slice ak ns cs],.string key,iT y]) ?_ rfl ⟨q,am,nm,cm,av,nv,cv,ak,ns,cs,M,T,S,key,y,rfl,hT,((((I.o.bl.setCell (p:=⟨X,0,none⟩) I.o.top.1 _).setCell (p:=⟨X,1,none⟩) I.o.top.1 _).setCell (p:=⟨X,2,none⟩) I.o.top.1 _).setCell (p:=⟨X,3,none⟩) I.o.top.1 _)⟩;have e:=(((I.o.bx.set0 (iT q)).set1 (.slice am nm cm)).set2 (.slice av nv cv)).set3 (.slice ak ns cs);simp [results,Tryz.results38,go_sem,e.all]
 · have bg:¬(ns:Int) > 0:=by omega
   go_upto_region 6 with fail
   have U:=(Below.refl wk.heap.size wk).drew;have S8:Eq (rq w wk.drew R X a d cap (E+1)):=SK.o.below U;have Q:Eq (eI L.heap.size R wk.drew (.agg #[iT q,.slice am nm cm,.slice av nv cv,.slice ak ns cs])):=aq.o.below U;have BY:Eq (aE wk.drew Y (iT q) (.slice am nm cm) (.slice av nv cv) (.slice ak ns cs)):=a0.o.keep U;clear U SK aq a0;refine eJ f BY.o fun t=>?_
   generalize wk.drew=wd at t S8 Q BY ⊢;refine aP 0 8 t ?_;refine aQ 8 fun K hK=>?_
   go_simp;refine (cu R (E+1) a d cap 40 _ S8.o.rd (by omega) (by omega)).mono ?_;rintro e m ⟨z,rfl,hz,af,J⟩;have ab:Wf z:=by have:=hz.1;have:=hz.2 (by omega);exact FW (by omega)
   have u:Eq (rq w m R X a d cap ((E+1)+1)):=S8.o.read J af;have B:Eq (eI L.heap.size R m (.agg #[iT q,.slice am nm cm,.slice av nv cv,.slice ak ns cs])):=Q.o.read S8.o.rd a5.o.1 J;have B5:Eq (aE m Y (iT q) (.slice am nm cm) (.slice av nv cv) (.slice ak ns cs)):=BY.o.grownB J a4;have aJ:Eq (Wf z):=ab;clear BY hz af J S8 Q ab;go_wp2_with fail
   refine hK.o _ _ (f.o _ B5.o) fun t=>?_
   (try go_frame);refine aQ 9 fun K hK=>?_
   go_simp;have kc:Bl m (m.alloc (.cells ((([q,q,z,0,-1]:List Int).map iT).toArray) 3)):=bZ;have S6:Eq (rq w (m.alloc (.cells ((([q,q,z,0,-1]:List Int).map iT).toArray) 3)) R X a d cap ((E+1)+1)):=u.o.below kc;have F:Eq (eI L.heap.size R (m.alloc (.cells ((([q,q,z,0,-1]:List Int).map iT).toArray) 3)) (.agg #[iT q,.slice am nm cm,.slice av nv cv,.slice ak ns cs])):=B.o.below kc;have B6:Eq (aE (m.alloc (.cells ((([q,q,z,0,-1]:List Int).map iT).toArray) 3)) Y (iT q) (.slice am nm cm) (.slice av nv cv) (.slice ak ns cs)):=B5.o.keep kc;have A:=dH m 3 [q,q,z,0,-1] Wf (by
    intro s hs;have ae:=D7 B.o;simp only [FF,F4,or_false] at hs;rcases hs with rfl | rfl | rfl | rfl | rfl
    · exact ae
    · exact ae
    · exact aJ.o
    · exact FW (by omega)
    · exact FW (by omega))
   have O:m.heap.size≠R:=by have:=u.o.rd.lt;omega
   have C:m.heap.size<(m.alloc (.cells ((([q,q,z,0,-1]:List Int).map iT).toArray) 3)).heap.size:=by simp
   clear kc u B B5;simp only [Gx,GO] at A C S6 F B6;generalize m.heap.size=gn at A O C ⊢;generalize m.alloc (.cells [iT q,iT q,iT z,iT 0,iT (-1)].toArray 3)=w6 at A C S6 F B6 ⊢;refine hK.o _ _ (f.o _ B6.o) fun t=>?_
   (try go_frame);refine aQ 10 fun K hK=>?_
   go_simp;refine (dV Wf R ((E+1)+1) a d cap gn 0 5 5 _ S6.o.rd (by omega) (by omega) (by omega) O C A).mono ?_;rintro e w7 ⟨y,rfl,_,ad,H⟩;have I:Eq (rq w w7 R X a d cap (((E+1)+1)+1)):=S6.o.read H ad;have aK:Eq (eI L.heap.size R w7 (.agg #[iT q,.slice am nm cm,.slice av nv cv,.slice ak ns cs])):=F.o.read S6.o.rd a5.o.1 H;have B7:Eq (aE w7 Y (iT q) (.slice am nm cm) (.slice av nv cv) (.slice ak ns cs)):=B6.o.grownB H a4;clear ad H S6 F B6 A O C;go_wp2_with fail
   refine hK.o _ _ (f.o _ B7.o) fun t=>?_
   (try go_frame);have x:Eq (∀u0 u1 u2 u3,aE ((((w7.setCell ⟨X,0,none⟩ u0).setCell ⟨X,1,none⟩ u1).setCell ⟨X,2,none⟩ u2).setCell ⟨X,3,none⟩ u3) Y (iT q) (.slice am nm cm) (.slice av nv cv) (.slice ak ns cs)):=fun u0 u1 u2 u3=>by
    have r:X≠Y:=by have:=aw.o;omega
    exact (((B7.o.other r _).other r _).other r _).other r _
   refine aQ 11 fun K hK=>?_
   have r0:=I.o.bx.all;go_simp;refine hK.o _ _ (f.o _ (x.o _ _ _ _)) (fun t=>?_);clear hK K r0;(try go_frame);refine aP 12 2 t ?_;refine dN ?_;clear t f x;go_wp2;obtain ⟨M,T,S,hT⟩:=aK.o.treK I.o.kx I.o.bx ap.o q am av ak nm cm nv cv ns cs;refine bodyPost_ret (v:=.tuple #[.agg #[iT q,.slice am nm cm,.slice av nv cv,.slice ak ns cs],.string key,iT y]) ?_ rfl ⟨q,am,nm,cm,av,nv,cv,ak,ns,cs,M,T,S,key,y,rfl,hT,((((I.o.bl.setCell (p:=⟨X,0,none⟩) I.o.top.1 _).setCell (p:=⟨X,1,none⟩) I.o.top.1 _).setCell (p:=⟨X,2,none⟩) I.o.top.1 _).setCell (p:=⟨X,3,none⟩) I.o.top.1 _)⟩;have e:=(((I.o.bx.set0 (iT q)).set1 (.slice am nm cm)).set2 (.slice av nv cv)).set3 (.slice ak ns cs);simp [results,Tryz.results38,go_sem,e.all]
theorem o7 {d:Array Oper} {rest:List Oper} {o:Oper} {a:Act} {w:World} {Q:Exit→Act→World→Prop} (b:o.guard=none) (s x:Operand)
 (ho:o.op=.call { callee:=.builtin .append,args:=#[s,x],argTypes:=#[28,28] })
 (base base' g n c:Nat) (X:List ae) (hs:a.eval s=sL g n c) (hO:ag w base g n c X) (ax:Option Addr) (m cx:Nat) (M:List ae) (hx:a.eval x=.slice ax m cx) (hM:cT w base' ax m cx M) (hn:n≤1048576) (hm:m≤1048576) (k:Nat) (hk:k=n+m)
 (h:∀e c' w',ag w' base e k c' (X++M)→w.grownBy w' (some g)→wpList Tryz.prog d Q rest (a.put o.dst (sL e k c')) w'):wpList Tryz.prog d Q (o :: rest) a w:=by
 subst hk;obtain ⟨i0,hi,t,r,f⟩:=info_parts Tryz.infoEnt;cases ax with
 | none =>
  obtain ⟨rfl,rfl,rfl⟩:=hM.nil rfl;refine wpList_append_own_none b s x 28 ho base 50 i0 5 Tryz.underlying28 hi _ n (aC X) hs hO.owns hx ?_;have:=h g c w (by simpa using hO) (World.grownBy.refl _ _);simpa using this
 | some y =>
  obtain ⟨A,rfl,hE⟩:=hM.own y rfl;refine wpList_append_own_at _ b s x 28 ho base 50 i0 _ 5 56 Tryz.underlying28 hi t r f rfl (by decide) _ n (aC X) hs hO.owns ⟨A,0,none⟩ m cx (aC M) hx (by rw [aV,hE.len]) (bC hE.entsAt) (aO _) (by unfold maxLen;omega) (by omega) (by have:=hO.lt;omega) ?_;intro u w' hown hgrow hnil hat;obtain ⟨e,c',rfl⟩:∃g cap,u=sL g (n+m) cap:=by
   rcases hown.2 with ⟨hv,h0⟩ | ⟨g,cap,_,rfl,_⟩
   · have:=(hnil.1 hv).1;cases this
   · exact ⟨g,cap,rfl⟩
  refine h e c' w' ⟨by rw [aL];exact hown,by rw [Fy,hO.len,hE.len],fun l hl=>?_⟩ (by simpa [Value.ownBlock] using hgrow);rcases FI.1 hl with h1 | h1
  · exact hO.ents l h1
  · exact hE.ents l h1
theorem EQ (i:Nat) (j:Nat) (b:j<5):(i*5+j) / 5=i∧(i*5+j) % 5=j:=by omega
theorem vk (x:ae):(aX x)[0]! = .string x.1∧(aX x)[1]! = iT x.2.1∧(aX x)[2]! = iT x.2.2.1∧(aX x)[3]! = .string x.2.2.2.1∧(aX x)[4]! = iT x.2.2.2.2:=⟨rfl,rfl,rfl,rfl,rfl⟩
theorem p8 {base c:Nat} {L:List ae} (hO:ag w base g n c L):HoldsK aX 5 w g 0 L.toArray:=by
 intro t d;rw [size_flatK] at d;have hl:=hO.len;have b:t / 5<L.length:=by simp at d;omega
 refine ⟨?_,by rw [FG];exact hO.owns.frozenAt _⟩;rw [get_flatK _ _ _ _ d];obtain ⟨c0,c1,c2,c3,c4⟩:=hO.entsAt.cells _ rfl (t / 5) b;have e:(L.toArray)[t / 5]! = L[t / 5]:=by simp [b]
 rw [e];obtain ⟨z0,o,m,z3,z4⟩:=vk L[t / 5];have hm:t % 5<5:=Nat.mod_lt _ (by omega);have f:t=t / 5*5+t % 5:=by omega
 rcases (show t % 5=0∨t % 5=1∨t % 5=2∨t % 5=3∨t % 5=4 by omega) with h | h | h | h | h
 · rw [h,z0];rw [show (0:Nat)+t=0+t / 5*5 by omega];exact c0
 · rw [h,o];rw [show (0:Nat)+t=0+t / 5*5+1 by omega];exact c1
 · rw [h,m];rw [show (0:Nat)+t=0+t / 5*5+2 by omega];exact c2
 · rw [h,z3];rw [show (0:Nat)+t=0+t / 5*5+3 by omega];exact c3
 · rw [h,z4];rw [show (0:Nat)+t=0+t / 5*5+4 by omega];exact c4
theorem xJ {D:Array ae} (h:HoldsK aX 5 w g 0 D) (i:Nat) (hi:i<D.toList.length):jX w g (0+i*5) D.toList[i]:=by
 have d:i<D.size:=by simpa using hi
 have e:D[i]! = D.toList[i]:=by simp [d]
 have key:∀j,j<5→w.cell? ⟨g,0+i*5+j,none⟩=some ((aX D.toList[i])[j]!):=fun j f=>by
  have b:i*5+j<D.size*5:=by omega
  have:=(h (i*5+j) (by rw [size_flatK];exact b)).1;rw [get_flatK _ _ _ _ b,(EQ i j f).1,(EQ i j f).2,e] at this;rw [G9];exact this
 obtain ⟨z0,m,o,z3,z4⟩:=vk D.toList[i];exact ⟨by rw [← z0];exact key 0 (by omega),by rw [← m];exact key 1 (by omega),by rw [← o];exact key 2 (by omega),by rw [← z3];exact key 3 (by omega),by rw [← z4];exact key 4 (by omega)⟩
theorem mq {f:Array Obj} (d:Array ae):w.grownBy (sortWorldK aX 5 w g 0 n d f) (some g):=by
 unfold sortWorldK putRowK;refine ⟨rfl,rfl,rfl,by simp,fun k hk b=>?_⟩;rw [heap_grow_old _ _ (by simpa using hk)];have:g≠k:=fun e=>b (by rw [e])
 simp [putRow,mapBlock,Sort.ahead,Array.getElem?_modify,this]
def Tryz.insL_ren : Go.Shelf.Ren := ⟨fun | 20 => 213 | n => n, fun | 24 => 50 | 22 => 28 | 3 => 3 | 25 => 118 | 4 => 4 | 0 => 0 | n => n, fun | n => n⟩
theorem Tryz.insL : Go.Proofs.SlLaysF0.n20 Tryz.prog Tryz.insL_ren := {
  mixed := by kernel_rfl
  f20 := ⟨Tryz.f213.name, by decide, Tryz.func213.trans (congrArg some (by kernel_rfl))⟩
  t0 := Tryz.underlying0
  a0 := Tryz.isAgg0
  z0 := Tryz.sizeOf0
  v0 := Tryz.zeroValue0
  t3 := Tryz.underlying3
  a3 := Tryz.isAgg3
  z3 := Tryz.sizeOf3
  v3 := Tryz.zeroValue3
  t4 := Tryz.underlying4
  a4 := Tryz.isAgg4
  z4 := Tryz.sizeOf4
  v4 := Tryz.zeroValue4
  t22 := Tryz.underlying28
  a22 := Tryz.isAgg28
  z22 := Tryz.sizeOf28
  v22 := Tryz.zeroValue28
  t25 := Tryz.underlying118
  a25 := Tryz.isAgg118
  z25 := Tryz.sizeOf118
  v25 := Tryz.zeroValue118 }
theorem DA (x r t s:ByteArray) (b o m d y u:Int) (w:World) :
 Calls Tryz.prog 112 #[.agg #[.string x,iT b,iT o,.string r,iT m],.agg #[.string t,iT d,iT y,.string s,iT u]] w fun e w'=>e=.returned (iT (Lib.compareInt b d))∧∃q f,w'=grow (w.drewN q) f:=by
 obtain ⟨D,hD⟩:=aG (Lib.compareInt b d);have c2:∀w,Calls Tryz.prog 170 #[iT b,iT d] w fun e w'=>e=.returned (iT D)∧w'=w:=by rw [hD];exact jn b d
 rw [← hD];clear hD;go_enter Tryz.func112,Tryz.ntmps112
 go_wp2_with fail
 refine (c2 _).mono ?_;rintro e w' ⟨rfl,rfl⟩;go_wp2;go_ret;refine ⟨rfl,0,#[.cells #[.string x,iT b,iT o,.string r,iT m] 50,.cells #[.string t,iT d,iT y,.string s,iT u] 50],?_⟩;rw [qI,qI,grow_grow];rfl
def x8 (x y:ae):Int:=Lib.compareInt x.2.1 y.2.1
theorem Ej:ltOf x8=wX:=by
 funext x y
 unfold ltOf x8 wX Lib.compareInt;by_cases h:x.2.1<y.2.1
 · simp [h]
 · by_cases h2:x.2.1 > y.2.1 <;> simp [h,h2]
end Go.Proofs.YtpobkmjicbobdaaGreat
