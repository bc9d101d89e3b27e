/- Walks. -/
import Derived.Test.YtpobkmjicbobdaaGreatBl34
import Derived.Ground.SlsfProg
namespace Go.Proofs.YtpobkmjicbobdaaGreat
set_option maxRecDepth 100000
set_option maxHeartbeats 40000000
open Go.RowKit Go.Shelf Go.Sort
variable {P R X cap cm cs cv g len lo n nm ns nv:Nat} {V:List (List an)} {a ak am av:Option Addr} {q:Int} {w w' wi wj:World}
def Cl (R:Nat) (a:Option Addr) (len cap P d:Nat) (w:World) (e:Ending) (w':World):Prop:=∃q am nm cm av nv cv ak ns cs P',e=.returned (.agg #[iT q,.slice am nm cm,.slice av nv cv,.slice ak ns cs])∧d9 w.heap.size R w' (.agg #[iT q,.slice am nm cm,.slice av nv cv,.slice ak ns cs])∧aZ w' R a len cap P'∧P'≤P+d∧w.grownBy w' (some R)∧pl (.agg #[iT q,.slice am nm cm,.slice av nv cv,.slice ak ns cs])
theorem d9.low {b:Nat} {v:Value} (h:d9 lo R w v) (hl:b≤lo):d9 b R w v:=by
 rcases h with h | h
 · obtain ⟨q,am,nm,cm,G,c,ak,ns,cs,u,o,m,s,f,d,n2,r,M,A,B,C,S,e,t,htb⟩:=h;exact .inl ⟨q,am,nm,cm,G,c,ak,ns,cs,u,o,m,s,f,d,n2,r,M,A,B,C,S,e,t.mono hl,htb⟩
 · exact .inr h
theorem uQ (R P:Nat) (a:Option Addr) (len cap:Nat) (w:World) (h:aZ w R a len cap P) (u:qM a len R) (hP:P<60000) :
 Calls Tryz.prog 78 #[.pointer (pT R)] w (Cl R a len cap P 7000 w):=by
 obtain ⟨Z,U⟩:=aH w.heap.size;obtain ⟨W,Y⟩:=aH (w.alloc (.cells #[iT 0,nZ,nZ,nZ] 31));have kW:Bl w W:=by rw [Y];exact bZ
 have br:az W Z (iT 0) nZ nZ nZ∧au W Z 31 4:=by rw [Y,U];exact ⟨az.new _ _ _ _ _ _,cy w #[iT 0,nZ,nZ,nZ] 31⟩
 have N:=h.lt;have F:CG (w.heap.size≤Z∧R<w.heap.size∧qM a len R):=⟨Nat.le_of_eq U.symm,N,u⟩;have J:CG (aZ W R a len cap P):=h.below kW;have y:CG (Bl w W):=kW;have B:CG (az W Z (iT 0) nZ nZ nZ∧au W Z 31 4):=br;clear h u br kW N;go_enter Tryz.func78,Tryz.ntmps78
 go_wp2_with fail
 rw [← Y,← U];clear Y U;refine (uP R P a len cap W J.o F.o.2.2 hP).mono ?_;rintro e T ⟨v,P1,rfl,A,O,a8,m,H,_⟩;obtain ⟨q,am,nm,cm,av,nv,cv,ak,ns,cs,rfl⟩:=A.val;have I:CG (W.grownBy T (some R)):=m;have d:Z≠R:=by have:=F.o;omega
 have E:CG (az T Z (iT 0) nZ nZ nZ∧au T Z 31 4):=⟨B.o.1.grownB m d,B.o.2.grown m d⟩;go_wp2_with fail
 refine (uR R P1 W.heap.size a len cap _ T O F.o.2.2 (by omega) (by have:=y.o.size;have:=F.o;omega) m.size A).mono ?_;rintro e K ⟨v,P2,rfl,x,Q,a7,s,L⟩;have D:=L H;clear L H;obtain ⟨q,am,nm,cm,av,nv,cv,ak,ns,cs,rfl⟩:=x.val;have D:CG (pl (.agg #[iT q,.slice am nm cm,.slice av nv cv,.slice ak ns cs])):=D;have t:CG (az K Z (iT 0) nZ nZ nZ∧au K Z 31 4):=⟨E.o.1.grownB s d,E.o.2.grown s d⟩;have a0:CG (d9 W.heap.size R K (.agg #[iT q,.slice am nm cm,.slice av nv cv,.slice ak ns cs])):=x;have HY:CG (aZ K R a len cap P2∧w.grownBy K (some R)):=⟨Q,ae (aS y.o) (ae I.o s)⟩;have a3:P2≤P+7000:=by omega
 have r0:=t.o.1.all;clear x Q s A O m E I B J;go_wp2;refine bodyPost_ret (v:=.agg #[iT q,.slice am nm cm,.slice av nv cv,.slice ak ns cs]) ?_ rfl ⟨q,am,nm,cm,av,nv,cv,ak,ns,cs,P2,rfl,(a0.o.four t.o.2 t.o.1).low y.o.size,?_,a3,?_,D.o⟩
 · have e:=(((t.o.1.set0 (iT q)).set1 (.slice am nm cm)).set2 (.slice av nv cv)).set3 (.slice ak ns cs);simp [results,Tryz.results78,go_sem,e.all]
 · have f:∀b C,a=some ⟨b,C,none⟩→0<len→b≠Z:=fun b C e hl=>by
    have:=F.o;rcases this.2.2 with h0 | h0
    · omega
    · have:=h0 b C e;omega
   exact (((HY.o.1.other d f _ _).other d f _ _).other d f _ _).other d f _ _
 · have r:w.heap.size≤Z:=F.o.1;exact aG (aG (aG (aG HY.o.2 r (cq _ _ _ _)) r (cq _ _ _ _)) r (cq _ _ _ _)) r (cq _ _ _ _)
def vq (w:World) (q:Int) (am:Option Addr) (nm cm:Nat) (av:Option Addr) (nv cv:Nat) (ak:Option Addr) (ns cs:Nat) (M:List ac) (V:List (List an)) (S:List Int):Prop:=(Lit.int .i64 q).wf=true∧b6 0 w am nm cm av nv cv ak ns cs M V S∧po w av V∧(∃g,ak=some ⟨g,0,none⟩)∧∃g,am=some ⟨g,0,none⟩
theorem po.keep (h:po w av V) (hb:Bl w w'):po w' av V:=fun i B hB=>by
 obtain ⟨b,e,n,c,h1,h2⟩:=h i B hB
 exact ⟨b,e,n,c,h1,cell_later hb h2⟩
theorem vq.keep {M:List ac} {S:List Int} (h:vq w q am nm cm av nv cv ak ns cs M V S) (hb:Bl w w'):vq w' q am nm cm av nv cv ak ns cs M V S:=⟨h.1,h.2.1.keep hb,h.2.2.1.keep hb,h.2.2.2⟩
structure pJ (w wi:World) (R X:Nat) (a:Option Addr) (len cap P:Nat):Prop where
 rd:aZ wi R a len cap P
 low:qM a len R
 bx:az wi X (iT 0) nZ nZ nZ
 kx:au wi X 31 4
 bl:Bl w wi
 top:w.heap.size≤X∧X<R
theorem pJ.below (h:pJ w wi R X a len cap P) (hb:Bl wi wj):pJ w wj R X a len cap P :=
 ⟨h.rd.below hb,h.low,h.bx.keep hb,h.kx.below hb,h.bl.trans (hb.mono h.bl.size),h.top⟩
theorem pJ.read {P':Nat} (h:pJ w wi R X a len cap P) (hg:wi.grownBy wj (some R)) (hr:aZ wj R a len cap P'):pJ w wj R X a len cap P' :=
 have e:X≠R:=by have:=h.top;omega
 ⟨hr,h.low,h.bx.grownB hg e,h.kx.grown hg e,h.bl.grown hg h.bl.size (fun k e=>by cases e;have:=h.top;omega),h.top⟩
theorem tJ {W:World} (r:Bl w W) (o:len=0∨∃b d,a=some ⟨b,d,none⟩∧b<w.heap.size∧∀i,i<len→∃z:Nat,z≤255∧w.cell? ⟨b,d+i,none⟩=some (.int .u8 z)):len=0∨∃b d,a=some ⟨b,d,none⟩∧b<W.heap.size∧∀i,i<len→∃z:Nat,z≤255∧W.cell? ⟨b,d+i,none⟩=some (.int .u8 z):=by
 rcases o with h0 | ⟨b,d,ha,e,f⟩
 · exact Or.inl h0
 · exact Or.inr ⟨b,d,ha,l' e r.size,fun i hi=>by obtain ⟨z,hz,m⟩:=f i hi;exact ⟨z,hz,cell_later r m⟩⟩
theorem zg {d:World} (h:aZ d R a len cap P) (hs:d.heap.size=R+1):qM a len R:=by
 rcases h.bytes with h0 | ⟨b,m,ha,h1,h2,_⟩
 · exact Or.inl h0
 · exact Or.inr (fun b' f e=>by rw [ha] at e;cases e;omega)
def Co (w:World) (e:Ending) (w':World):Prop:=∃q am nm cm av nv cv ak ns cs M V S,∃(key:ByteArray) (sq:Int),e=.returned (.tuple #[.agg #[iT q,.slice am nm cm,.slice av nv cv,.slice ak ns cs],.string key,iT sq])∧(vq w' q am nm cm av nv cv ak ns cs M V S∧A6 M V)∧Bl w w'
theorem d9.treK (h:d9 lo R w (.agg #[iT q,.slice am nm cm,.slice av nv cv,.slice ak ns cs])) (hk:au w X 31 4) (y:az w X (iT 0) nZ nZ nZ) (hs:pl (.agg #[iT q,.slice am nm cm,.slice av nv cv,.slice ak ns cs])) (u0:Int) (a1 a2 a3:Option Addr) (m1 k1 m2 k2 m3 k3:Nat):∃M V S,vq ((((w.setCell ⟨X,0,none⟩ (iT u0)).setCell ⟨X,1,none⟩ (.slice a1 m1 k1)).setCell ⟨X,2,none⟩ (.slice a2 m2 k2)).setCell ⟨X,3,none⟩ (.slice a3 m3 k3)) q am nm cm av nv cv ak ns cs M V S∧A6 M V:=by
 obtain ⟨B,o,f,r,b,d,m,u,s,A,M,V,S,e,h1,h2,h3,_,h5⟩:=(h.four hk y).treeIn;cases e;obtain ⟨_,x,_,_,_,_,_,t,_,_,e⟩:=hs;exact ⟨M,V,S,⟨h1,h2,h3,⟨t,by simp at e;simp [e]⟩,⟨x,by simp at e;simp [e]⟩⟩,h5⟩
theorem yh (h:d9 lo R w (.agg #[iT q,.slice am nm cm,.slice av nv cv,.slice ak ns cs])):∃S,bQ 0 w ak ns cs S:=by
 obtain ⟨x,s,f,u,b,d,o,m,r,t,M,T,S,e,_,h2,_⟩:=h.treeIn;cases e;exact ⟨S,h2.snaps⟩
theorem tS (h:d9 lo R w (.agg #[iT q,.slice am nm cm,.slice av nv cv,.slice ak ns cs])) {j:Nat} (e:j<ns):∃b d z,ak=some ⟨b,d,none⟩∧w.cell? ⟨b,d+j,none⟩=some (iT z)∧b<w.heap.size:=by
 obtain ⟨S,hS⟩:=yh h;obtain ⟨b,d,rfl,hb⟩:=hS.form (by omega);obtain ⟨z,_,_,hz⟩:=hS.num (Below.refl _ w) j e;exact ⟨b,d,z,rfl,hz,hb⟩
theorem A4 (h:d9 lo R w (.agg #[iT q,.slice am nm cm,.slice av nv cv,.slice ak ns cs])):Wf q:=by
 obtain ⟨x,r,f,t,b,d,o,m,u,s,M,T,S,e,h1,_⟩:=h.treeIn;cases e;exact h1
theorem o4 (a:Option Addr) (len cap:Nat) (w:World) (hb:iR w a len cap) :
 Calls Tryz.prog 38 #[.slice a len cap] w (Co w):=by
 obtain ⟨X,hX⟩:=aH w.heap.size;obtain ⟨W,hW⟩:=aH (w.alloc (.cells #[iT 0,nZ,nZ,nZ] 31));have kW:Bl w W:=by rw [hW];exact bZ
 have br:az W X (iT 0) nZ nZ nZ∧au W X 31 4:=by rw [hW,hX];exact ⟨az.new _ _ _ _ _ _,cy w #[iT 0,nZ,nZ,nZ] 31⟩
 obtain ⟨aX,b7,b3⟩:=hb;have aC:=tJ kW b3;have HK:CG (w.heap.size≤X∧X<W.heap.size∧Bl w W):=⟨Nat.le_of_eq hX.symm,br.1.lt,kW⟩;have HB:CG (az W X (iT 0) nZ nZ nZ∧au W X 31 4):=br;clear br kW b3;go_enter Tryz.func38,Tryz.ntmps38
 go_wp2_with fail
 rw [← hW];try rw [← hX]
 clear hW hX;refine (uO a len cap _ aX b7 aC).mono ?_;rintro e L ⟨d,rfl,aj,ao,ac⟩;obtain ⟨R,hR⟩:=aH W.heap.size;rw [← hR] at aj ac;rw [← hR];have S1:CG (pJ w L R X a d cap 0):=⟨aj,zg aj ac,HB.o.1.keep ao,HB.o.2.below ao,HK.o.2.2.trans (ao.mono HK.o.2.2.size),HK.o.1,by rw [hR];exact HK.o.2.1⟩;clear aX b7 aC aj ao ac hR HK HB;go_wp2_with fail
 refine (uQ R 0 a d cap L S1.o.rd S1.o.low (by omega)).mono ?_;rintro e w2 ⟨q,am,nm,cm,av,nv,cv,ak,ns,cs,E,rfl,aZ,aU,bo,aL,aQ⟩;have ar:CG (pl (.agg #[iT q,.slice am nm cm,.slice av nv cv,.slice ak ns cs])):=aQ;have S2:CG (pJ w w2 R X a d cap E):=S1.o.read aL aU;have aW:CG (d9 L.heap.size R w2 (.agg #[iT q,.slice am nm cm,.slice av nv cv,.slice ak ns cs])):=aZ;have a4:CG (R<L.heap.size∧L.heap.size≤w2.heap.size):=⟨S1.o.rd.lt,aL.size⟩;clear S1 aZ aU aL aQ;obtain ⟨Y,hY⟩:=aH w2.heap.size;obtain ⟨w3,an⟩:=aH (w2.alloc (.cells #[iT q,.slice am nm cm,.slice av nv cv,.slice ak ns cs] 31));have k3:Bl w2 w3:=by rw [an];exact bZ
 have b5:CG (az w3 Y (iT q) (.slice am nm cm) (.slice av nv cv) (.slice ak ns cs)):=by rw [an,hY];exact az.new _ _ _ _ _ _
 have S3:CG (pJ w w3 R X a d cap E):=S2.o.below k3;have aS:CG (d9 L.heap.size R w3 (.agg #[iT q,.slice am nm cm,.slice av nv cv,.slice ak ns cs])):=aW.o.below k3;have ap:CG (X<Y∧R<Y∧R<w3.heap.size):=by have:=S2.o.rd.lt;have:=S2.o.top;have:=S3.o.rd.lt;exact ⟨by omega,by omega,this⟩
 clear S2 aW k3;go_upto_region 3 with fail
 rw [← an];try rw [← hY]
 clear an hY;have a6:Y≠R:=by have:=ap.o;omega
 go_wp2_with fail
 refine (qj R E a d cap _ S3.o.rd (by omega)).mono ?_;rintro e wk ⟨key,rfl,_,b0,ah⟩;have SK:CG (pJ w wk R X a d cap (E+1)):=S3.o.read ah b0;have aw:CG (d9 L.heap.size R wk (.agg #[iT q,.slice am nm cm,.slice av nv cv,.slice ak ns cs])):=aS.o.read S3.o.rd a4.o.1 ah;have a0:CG (az wk Y (iT q) (.slice am nm cm) (.slice av nv cv) (.slice ak ns cs)):=b5.o.grownB ah a6;clear b0 ah S3 aS b5;go_upto_region 4 with fail
 have f:CG (∀w',az w' Y (iT q) (.slice am nm cm) (.slice av nv cv) (.slice ak ns cs)→(fun w':World=>w'.cell? ⟨Y,0,none⟩=some (iT q)∧w'.cell? ⟨Y,1,none⟩=some (.slice am nm cm)∧w'.cell? ⟨Y,2,none⟩=some (.slice av nv cv)∧w'.cell? ⟨Y,3,none⟩=some (.slice ak ns cs)∧Y<w'.heap.size) w'):=fun w' b=>⟨b.c0,b.c1,b.c2,b.c3,b.lt⟩
 have x3:=a0.o.c3;have xz:=a0.o.lt;by_cases b1:0<ns
 · have bh:(ns:Int) > 0:=by omega
   go_wp2_with fail
   clear x3 xz;refine (bX R (E+1) a d cap 2 _ SK.o.rd (by omega) (by omega)).mono ?_;rintro e N ⟨z,rfl,bd,aO,ax⟩;have S4:CG (pJ w N R X a d cap (E+1+1)):=SK.o.read ax aO;have ai:CG (d9 L.heap.size R N (.agg #[iT q,.slice am nm cm,.slice av nv cv,.slice ak ns cs])):=aw.o.read SK.o.rd a4.o.1 ax;have al:CG (az N Y (iT q) (.slice am nm cm) (.slice av nv cv) (.slice ak ns cs)):=a0.o.grownB ax a6;clear aO ax SK aw a0 bd;by_cases b6:z=0
   · subst b6;go_upto_region 5 with fail
     have Z:=(Below.refl N.heap.size N).drew;have aE:CG (pJ w N.drew R X a d cap (E+1+1)):=S4.o.below Z;have U:CG (d9 L.heap.size R N.drew (.agg #[iT q,.slice am nm cm,.slice av nv cv,.slice ak ns cs])):=ai.o.below Z;have aq:CG (az N.drew Y (iT q) (.slice am nm cm) (.slice av nv cv) (.slice ak ns cs)):=al.o.keep Z;clear Z S4 ai al;refine ez f aq.o fun r=>?_
     generalize N.drew=m at r aE U aq ⊢;obtain ⟨b,x,z9,rfl,b4⟩:=tS U.o b1;have u:CG (pJ w m R X a d cap (E+1+1)):=aE.o;have A:CG (d9 L.heap.size R m (.agg #[iT q,.slice am nm cm,.slice av nv cv,sO b x ns cs])):=U.o;have BY:CG (az m Y (iT q) (.slice am nm cm) (.slice av nv cv) (sO b x ns cs)):=aq.o;have HZ:CG (m.cell? ⟨b,x,none⟩=some (iT z9)∧b<m.heap.size):=b4;clear b4 aE U aq;refine aP 0 5 r ?_;have C:CG (∀u0 u1 u2 u3,az ((((m.setCell ⟨X,0,none⟩ u0).setCell ⟨X,1,none⟩ u1).setCell ⟨X,2,none⟩ u2).setCell ⟨X,3,none⟩ u3) Y (iT q) (.slice am nm cm) (.slice av nv cv) (sO b x ns cs)):=fun u0 u1 u2 u3=>by
      have t:X≠Y:=by have:=ap.o;omega
      exact (((BY.o.other t _).other t _).other t _).other t _
     refine jX 5 6 (fun K hK=>?_) (fun K hK=>?_)
     · have hz:=HZ.o.1;have aJ:=HZ.o.2;go_simp;clear hz aJ;refine hK.o _ _ (f.o _ BY.o) fun r=>?_
       (try go_frame);refine aR 6 fun K hK=>?_
       have r0:=u.o.bx.all;go_simp;refine hK.o _ _ (f.o _ (C.o _ _ _ _)) (fun r=>?_);clear hK K r0;(try go_frame);refine aP 7 2 r ?_;refine dN ?_;clear r f C;go_wp2;obtain ⟨M,T,S,hT⟩:=A.o.treK u.o.kx u.o.bx ar.o q am av (some ⟨b,x,none⟩) nm cm nv cv ns cs;refine bodyPost_ret (v:=.tuple #[.agg #[iT q,.slice am nm cm,.slice av nv cv,sO b x ns cs],.string key,iT z9]) ?_ rfl ⟨q,am,nm,cm,av,nv,cv,_,ns,cs,M,T,S,key,z9,rfl,hT,((((u.o.bl.setCell (p:=⟨X,0,none⟩) u.o.top.1 _).setCell (p:=⟨X,1,none⟩) u.o.top.1 _).setCell (p:=⟨X,2,none⟩) u.o.top.1 _).setCell (p:=⟨X,3,none⟩) u.o.top.1 _)⟩;have e:=(((u.o.bx.set0 (iT q)).set1 (.slice am nm cm)).set2 (.slice av nv cv)).set3 (sO b x ns cs);simp [results,Tryz.results38,go_sem,e.all]
     · have r0:=u.o.bx.all;go_simp;refine hK.o _ _ (f.o _ (C.o _ _ _ _)) (fun r=>?_);clear hK K r0;(try go_frame);obtain ⟨b8,bm,z8,e8,ag⟩:=tS (A.o.four u.o.kx u.o.bx (q:=q) (a1:=am) (m1:=nm) (k1:=cm) (a2:=av) (m2:=nv) (k2:=cv) (a3:=some ⟨b,x,none⟩) (m3:=ns) (k3:=cs)) b1;cases e8;rw [DS] at ag;refine aP 7 1 r ?_;refine aR 5 fun K hK=>?_
       have hz:=ag.1;have aJ:=ag.2;have hzs:=HZ.o.2;go_simp;refine hK.o _ _ (f.o _ (C.o _ _ _ _)) (fun r=>?_);clear hK K hz aJ hzs ag;(try go_frame);refine aP 8 1 r ?_;refine dN ?_;clear r f C;go_wp2;obtain ⟨M,T,S,hT⟩:=A.o.treK u.o.kx u.o.bx ar.o q am av (some ⟨b,x,none⟩) nm cm nv cv ns cs;refine bodyPost_ret (v:=.tuple #[.agg #[iT q,.slice am nm cm,.slice av nv cv,sO b x ns cs],.string key,iT z8]) ?_ rfl ⟨q,am,nm,cm,av,nv,cv,_,ns,cs,M,T,S,key,z8,rfl,hT,((((u.o.bl.setCell (p:=⟨X,0,none⟩) u.o.top.1 _).setCell (p:=⟨X,1,none⟩) u.o.top.1 _).setCell (p:=⟨X,2,none⟩) u.o.top.1 _).setCell (p:=⟨X,3,none⟩) u.o.top.1 _)⟩;have e:=(((u.o.bx.set0 (iT q)).set1 (.slice am nm cm)).set2 (.slice av nv cv)).set3 (sO b x ns cs);simp [results,Tryz.results38,go_sem,e.all]
   · have bu:(z == 0)=false:=by simpa using b6
     go_upto_region 6 with fail
     have Z:=(Below.refl N.heap.size N).drew;have S8:CG (pJ w N.drew R X a d cap (E+1+1)):=S4.o.below Z;have Q:CG (d9 L.heap.size R N.drew (.agg #[iT q,.slice am nm cm,.slice av nv cv,.slice ak ns cs])):=ai.o.below Z;have BY:CG (az N.drew Y (iT q) (.slice am nm cm) (.slice av nv cv) (.slice ak ns cs)):=al.o.keep Z;clear Z S4 ai al;refine ez f BY.o fun r=>?_
     generalize N.drew=wd at r S8 Q BY ⊢;refine aP 0 8 r ?_;refine aR 8 fun K hK=>?_
     go_simp;refine (bX R (E+1+1) a d cap 40 _ S8.o.rd (by omega) (by omega)).mono ?_;rintro e m ⟨z,rfl,hz,ab,H⟩;have ae:Wf z:=by have:=hz.1;have:=hz.2 (by omega);exact Dk (by omega)
     have u:CG (pJ w m R X a d cap ((E+1+1)+1)):=S8.o.read H ab;have A:CG (d9 L.heap.size R m (.agg #[iT q,.slice am nm cm,.slice av nv cv,.slice ak ns cs])):=Q.o.read S8.o.rd a4.o.1 H;have B5:CG (az m Y (iT q) (.slice am nm cm) (.slice av nv cv) (.slice ak ns cs)):=BY.o.grownB H a6;have aF:CG (Wf z):=ae;clear BY hz ab H S8 Q ae;go_wp2_with fail
     refine hK.o _ _ (f.o _ B5.o) fun r=>?_
     (try go_frame);refine aR 9 fun K hK=>?_
     go_simp;have kc:Bl m (m.alloc (.cells ((([q,q,z,0,-1]:List Int).map iT).toArray) 3)):=bZ;have S6:CG (pJ w (m.alloc (.cells ((([q,q,z,0,-1]:List Int).map iT).toArray) 3)) R X a d cap ((E+1+1)+1)):=u.o.below kc;have J:CG (d9 L.heap.size R (m.alloc (.cells ((([q,q,z,0,-1]:List Int).map iT).toArray) 3)) (.agg #[iT q,.slice am nm cm,.slice av nv cv,.slice ak ns cs])):=A.o.below kc;have B6:CG (az (m.alloc (.cells ((([q,q,z,0,-1]:List Int).map iT).toArray) 3)) Y (iT q) (.slice am nm cm) (.slice av nv cv) (.slice ak ns cs)):=B5.o.keep kc;have D:=dl m 3 [q,q,z,0,-1] Wf (by
      intro s hs;have a8:=A4 A.o;simp only [Da,Dr,or_false] at hs;rcases hs with rfl | rfl | rfl | rfl | rfl
      · exact a8
      · exact a8
      · exact aF.o
      · exact Dk (by omega)
      · exact Dk (by omega))
     have O:m.heap.size≠R:=by have:=u.o.rd.lt;omega
     have B:m.heap.size<(m.alloc (.cells ((([q,q,z,0,-1]:List Int).map iT).toArray) 3)).heap.size:=by simp
     clear kc u A B5;simp only [Ep,Ev] at D B S6 J B6;generalize m.heap.size=gn at D O B ⊢;generalize m.alloc (.cells [iT q,iT q,iT z,iT 0,iT (-1)].toArray 3)=w6 at D B S6 J B6 ⊢;refine hK.o _ _ (f.o _ B6.o) fun r=>?_
     (try go_frame);refine aR 10 fun K hK=>?_
     go_simp;refine (dF Wf R ((E+1+1)+1) a d cap gn 0 5 5 _ S6.o.rd (by omega) (by omega) (by omega) O B D).mono ?_;rintro e w7 ⟨y,rfl,_,a9,I⟩;have F:CG (pJ w w7 R X a d cap (((E+1+1)+1)+1)):=S6.o.read I a9;have aI:CG (d9 L.heap.size R w7 (.agg #[iT q,.slice am nm cm,.slice av nv cv,.slice ak ns cs])):=J.o.read S6.o.rd a4.o.1 I;have B7:CG (az w7 Y (iT q) (.slice am nm cm) (.slice av nv cv) (.slice ak ns cs)):=B6.o.grownB I a6;clear a9 I S6 J B6 D O B;go_wp2_with fail
     refine hK.o _ _ (f.o _ B7.o) fun r=>?_
     (try go_frame);have C:CG (∀u0 u1 u2 u3,az ((((w7.setCell ⟨X,0,none⟩ u0).setCell ⟨X,1,none⟩ u1).setCell ⟨X,2,none⟩ u2).setCell ⟨X,3,none⟩ u3) Y (iT q) (.slice am nm cm) (.slice av nv cv) (.slice ak ns cs)):=fun u0 u1 u2 u3=>by
      have t:X≠Y:=by have:=ap.o;omega
      exact (((B7.o.other t _).other t _).other t _).other t _
     refine aR 11 fun K hK=>?_
     have r0:=F.o.bx.all;go_simp;refine hK.o _ _ (f.o _ (C.o _ _ _ _)) (fun r=>?_);clear hK K r0;(try go_frame);refine aP 12 2 r ?_;refine dN ?_;clear r f C;go_wp2;obtain ⟨M,T,S,hT⟩:=aI.o.treK F.o.kx F.o.bx ar.o q am av ak nm cm nv cv ns cs;refine bodyPost_ret (v:=.tuple #[.agg #[iT q,.slice am nm cm,.slice av nv cv,.slice ak ns cs],.string key,iT y]) ?_ rfl ⟨q,am,nm,cm,av,nv,cv,ak,ns,cs,M,T,S,key,y,rfl,hT,((((F.o.bl.setCell (p:=⟨X,0,none⟩) F.o.top.1 _).setCell (p:=⟨X,1,none⟩) F.o.top.1 _).setCell (p:=⟨X,2,none⟩) F.o.top.1 _).setCell (p:=⟨X,3,none⟩) F.o.top.1 _)⟩;have e:=(((F.o.bx.set0 (iT q)).set1 (.slice am nm cm)).set2 (.slice av nv cv)).set3 (.slice ak ns cs);simp [results,Tryz.results38,go_sem,e.all]
 · have bh:¬(ns:Int) > 0:=by omega
   go_upto_region 6 with fail
   have Z:=(Below.refl wk.heap.size wk).drew;have S8:CG (pJ w wk.drew R X a d cap (E+1)):=SK.o.below Z;have Q:CG (d9 L.heap.size R wk.drew (.agg #[iT q,.slice am nm cm,.slice av nv cv,.slice ak ns cs])):=aw.o.below Z;have BY:CG (az wk.drew Y (iT q) (.slice am nm cm) (.slice av nv cv) (.slice ak ns cs)):=a0.o.keep Z;clear Z SK aw a0;refine ez f BY.o fun r=>?_
   generalize wk.drew=wd at r S8 Q BY ⊢;refine aP 0 8 r ?_;refine aR 8 fun K hK=>?_
   go_simp;refine (bX R (E+1) a d cap 40 _ S8.o.rd (by omega) (by omega)).mono ?_;rintro e m ⟨z,rfl,hz,ab,H⟩;have ae:Wf z:=by have:=hz.1;have:=hz.2 (by omega);exact Dk (by omega)
   have u:CG (pJ w m R X a d cap ((E+1)+1)):=S8.o.read H ab;have A:CG (d9 L.heap.size R m (.agg #[iT q,.slice am nm cm,.slice av nv cv,.slice ak ns cs])):=Q.o.read S8.o.rd a4.o.1 H;have B5:CG (az m Y (iT q) (.slice am nm cm) (.slice av nv cv) (.slice ak ns cs)):=BY.o.grownB H a6;have aF:CG (Wf z):=ae;clear BY hz ab H S8 Q ae;go_wp2_with fail
   refine hK.o _ _ (f.o _ B5.o) fun r=>?_
   (try go_frame);refine aR 9 fun K hK=>?_
   go_simp;have kc:Bl m (m.alloc (.cells ((([q,q,z,0,-1]:List Int).map iT).toArray) 3)):=bZ;have S6:CG (pJ w (m.alloc (.cells ((([q,q,z,0,-1]:List Int).map iT).toArray) 3)) R X a d cap ((E+1)+1)):=u.o.below kc;have J:CG (d9 L.heap.size R (m.alloc (.cells ((([q,q,z,0,-1]:List Int).map iT).toArray) 3)) (.agg #[iT q,.slice am nm cm,.slice av nv cv,.slice ak ns cs])):=A.o.below kc;have B6:CG (az (m.alloc (.cells ((([q,q,z,0,-1]:List Int).map iT).toArray) 3)) Y (iT q) (.slice am nm cm) (.slice av nv cv) (.slice ak ns cs)):=B5.o.keep kc;have D:=dl m 3 [q,q,z,0,-1] Wf (by
    intro s hs;have a8:=A4 A.o;simp only [Da,Dr,or_false] at hs;rcases hs with rfl | rfl | rfl | rfl | rfl
    · exact a8
    · exact a8
    · exact aF.o
    · exact Dk (by omega)
    · exact Dk (by omega))
   have O:m.heap.size≠R:=by have:=u.o.rd.lt;omega
   have B:m.heap.size<(m.alloc (.cells ((([q,q,z,0,-1]:List Int).map iT).toArray) 3)).heap.size:=by simp
   clear kc u A B5;simp only [Ep,Ev] at D B S6 J B6;generalize m.heap.size=gn at D O B ⊢;generalize m.alloc (.cells [iT q,iT q,iT z,iT 0,iT (-1)].toArray 3)=w6 at D B S6 J B6 ⊢;refine hK.o _ _ (f.o _ B6.o) fun r=>?_
   (try go_frame);refine aR 10 fun K hK=>?_
   go_simp;refine (dF Wf R ((E+1)+1) a d cap gn 0 5 5 _ S6.o.rd (by omega) (by omega) (by omega) O B D).mono ?_;rintro e w7 ⟨y,rfl,_,a9,I⟩;have F:CG (pJ w w7 R X a d cap (((E+1)+1)+1)):=S6.o.read I a9;have aI:CG (d9 L.heap.size R w7 (.agg #[iT q,.slice am nm cm,.slice av nv cv,.slice ak ns cs])):=J.o.read S6.o.rd a4.o.1 I;have B7:CG (az w7 Y (iT q) (.slice am nm cm) (.slice av nv cv) (.slice ak ns cs)):=B6.o.grownB I a6;clear a9 I S6 J B6 D O B;go_wp2_with fail
   refine hK.o _ _ (f.o _ B7.o) fun r=>?_
   (try go_frame);have C:CG (∀u0 u1 u2 u3,az ((((w7.setCell ⟨X,0,none⟩ u0).setCell ⟨X,1,none⟩ u1).setCell ⟨X,2,none⟩ u2).setCell ⟨X,3,none⟩ u3) Y (iT q) (.slice am nm cm) (.slice av nv cv) (.slice ak ns cs)):=fun u0 u1 u2 u3=>by
    have t:X≠Y:=by have:=ap.o;omega
    exact (((B7.o.other t _).other t _).other t _).other t _
   refine aR 11 fun K hK=>?_
   have r0:=F.o.bx.all;go_simp;refine hK.o _ _ (f.o _ (C.o _ _ _ _)) (fun r=>?_);clear hK K r0;(try go_frame);refine aP 12 2 r ?_;refine dN ?_;clear r f C;go_wp2;obtain ⟨M,T,S,hT⟩:=aI.o.treK F.o.kx F.o.bx ar.o q am av ak nm cm nv cv ns cs;refine bodyPost_ret (v:=.tuple #[.agg #[iT q,.slice am nm cm,.slice av nv cv,.slice ak ns cs],.string key,iT y]) ?_ rfl ⟨q,am,nm,cm,av,nv,cv,ak,ns,cs,M,T,S,key,y,rfl,hT,((((F.o.bl.setCell (p:=⟨X,0,none⟩) F.o.top.1 _).setCell (p:=⟨X,1,none⟩) F.o.top.1 _).setCell (p:=⟨X,2,none⟩) F.o.top.1 _).setCell (p:=⟨X,3,none⟩) F.o.top.1 _)⟩;have e:=(((F.o.bx.set0 (iT q)).set1 (.slice am nm cm)).set2 (.slice av nv cv)).set3 (.slice ak ns cs);simp [results,Tryz.results38,go_sem,e.all]
theorem ng {b:Array Oper} {rest:List Oper} {o:Oper} {a:Act} {w:World} {Q:Exit→Act→World→Prop} (d:o.guard=none) (s x:Operand)
 (ho:o.op=.call { callee:=.builtin .append,args:=#[s,x],argTypes:=#[28,28] })
 (base base' g n c:Nat) (X:List ac) (hs:a.eval s=sL g n c) (hO:af w base g n c X) (ax:Option Addr) (m cx:Nat) (M:List ac) (hx:a.eval x=.slice ax m cx) (hM:cH w base' ax m cx M) (hn:n≤1048576) (hm:m≤1048576) (k:Nat) (hk:k=n+m)
 (h:∀e c' w',af w' base e k c' (X++M)→w.grownBy w' (some g)→wpList Tryz.prog b Q rest (a.put o.dst (sL e k c')) w'):wpList Tryz.prog b Q (o :: rest) a w:=by
 subst hk;obtain ⟨i0,hi,t,r,f⟩:=info_parts Tryz.infoEnt;cases ax with
 | none =>
  obtain ⟨rfl,rfl,rfl⟩:=hM.nil rfl;refine wpList_append_own_none d s x 28 ho base 50 i0 5 Tryz.underlying28 hi _ n (aC X) hs hO.owns hx ?_;have:=h g c w (by simpa using hO) (World.grownBy.refl _ _);simpa using this
 | some y =>
  obtain ⟨u,rfl,hE⟩:=hM.own y rfl;refine wpList_append_own_at _ d s x 28 ho base 50 i0 _ 5 56 Tryz.underlying28 hi t r f rfl (by decide) _ n (aC X) hs hO.owns ⟨u,0,none⟩ m cx (aC M) hx (by rw [aU,hE.len]) (bi hE.entsAt) (aL _) (by unfold maxLen;omega) (by omega) (by have:=hO.lt;omega) ?_;intro A w' hown hgrow hnil hat;obtain ⟨e,c',rfl⟩:∃g cap,A=sL g (n+m) cap:=by
   rcases hown.2 with ⟨hv,h0⟩ | ⟨g,cap,_,rfl,_⟩
   · have:=(hnil.1 hv).1;cases this
   · exact ⟨g,cap,rfl⟩
  refine h e c' w' ⟨by rw [aJ];exact hown,by rw [CW,hO.len,hE.len],fun l hl=>?_⟩ (by simpa [Value.ownBlock] using hgrow);rcases Dd.1 hl with h1 | h1
  · exact hO.ents l h1
  · exact hE.ents l h1
theorem BN (i:Nat) (j:Nat) (b:j<5):(i*5+j) / 5=i∧(i*5+j) % 5=j:=by omega
theorem tC (x:ac):(bD x)[0]! = .string x.1∧(bD x)[1]! = iT x.2.1∧(bD x)[2]! = iT x.2.2.1∧(bD x)[3]! = .string x.2.2.2.1∧(bD x)[4]! = iT x.2.2.2.2:=⟨rfl,rfl,rfl,rfl,rfl⟩
theorem oQ {base c:Nat} {L:List ac} (hO:af w base g n c L):HoldsK bD 5 w g 0 L.toArray:=by
 intro t d;rw [size_flatK] at d;have hl:=hO.len;have b:t / 5<L.length:=by simp at d;omega
 refine ⟨?_,by rw [C6];exact hO.owns.frozenAt _⟩;rw [get_flatK _ _ _ _ d];obtain ⟨c0,c1,c2,c3,c4⟩:=hO.entsAt.cells _ rfl (t / 5) b;have e:(L.toArray)[t / 5]! = L[t / 5]:=by simp [b]
 rw [e];obtain ⟨z0,o,f,z3,z4⟩:=tC L[t / 5];have hm:t % 5<5:=Nat.mod_lt _ (by omega);have m:t=t / 5*5+t % 5:=by omega
 rcases (show t % 5=0∨t % 5=1∨t % 5=2∨t % 5=3∨t % 5=4 by omega) with h | h | h | h | h
 · rw [h,z0];rw [show (0:Nat)+t=0+t / 5*5 by omega];exact c0
 · rw [h,o];rw [show (0:Nat)+t=0+t / 5*5+1 by omega];exact c1
 · rw [h,f];rw [show (0:Nat)+t=0+t / 5*5+2 by omega];exact c2
 · rw [h,z3];rw [show (0:Nat)+t=0+t / 5*5+3 by omega];exact c3
 · rw [h,z4];rw [show (0:Nat)+t=0+t / 5*5+4 by omega];exact c4
theorem vf {D:Array ac} (h:HoldsK bD 5 w g 0 D) (i:Nat) (hi:i<D.toList.length):jq w g (0+i*5) D.toList[i]:=by
 have d:i<D.size:=by simpa using hi
 have e:D[i]! = D.toList[i]:=by simp [d]
 have key:∀j,j<5→w.cell? ⟨g,0+i*5+j,none⟩=some ((bD D.toList[i])[j]!):=fun j f=>by
  have b:i*5+j<D.size*5:=by omega
  have:=(h (i*5+j) (by rw [size_flatK];exact b)).1;rw [get_flatK _ _ _ _ b,(BN i j f).1,(BN i j f).2,e] at this;rw [Eo];exact this
 obtain ⟨z0,m,o,z3,z4⟩:=tC D.toList[i];exact ⟨by rw [← z0];exact key 0 (by omega),by rw [← m];exact key 1 (by omega),by rw [← o];exact key 2 (by omega),by rw [← z3];exact key 3 (by omega),by rw [← z4];exact key 4 (by omega)⟩
theorem lA {f:Array Obj} (d:Array ac):w.grownBy (sortWorldK bD 5 w g 0 n d f) (some g):=by
 unfold sortWorldK putRowK;refine ⟨rfl,rfl,rfl,by simp,fun k hk b=>?_⟩;rw [heap_grow_old _ _ (by simpa using hk)];have:g≠k:=fun e=>b (by rw [e])
 simp [putRow,mapBlock,Sort.ahead,Array.getElem?_modify,this]
def Tryz.insL_ren : Go.Shelf.Ren := ⟨fun | 20 => 213 | n => n, fun | 24 => 50 | 22 => 28 | 3 => 3 | 25 => 118 | 4 => 4 | 0 => 0 | n => n, fun | n => n⟩
theorem Tryz.insL : Go.Proofs.SlLaysF0.n20 Tryz.prog Tryz.insL_ren := {
  mixed := by kernel_rfl
  f20 := ⟨Tryz.f213.name, by decide, Tryz.func213.trans (congrArg some (by kernel_rfl))⟩
  t0 := Tryz.underlying0
  a0 := Tryz.isAgg0
  z0 := Tryz.sizeOf0
  v0 := Tryz.zeroValue0
  t3 := Tryz.underlying3
  a3 := Tryz.isAgg3
  z3 := Tryz.sizeOf3
  v3 := Tryz.zeroValue3
  t4 := Tryz.underlying4
  a4 := Tryz.isAgg4
  z4 := Tryz.sizeOf4
  v4 := Tryz.zeroValue4
  t22 := Tryz.underlying28
  a22 := Tryz.isAgg28
  z22 := Tryz.sizeOf28
  v22 := Tryz.zeroValue28
  t25 := Tryz.underlying118
  a25 := Tryz.isAgg118
  z25 := Tryz.sizeOf118
  v25 := Tryz.zeroValue118 }
theorem AD (y t x o:ByteArray) (d s r b m u:Int) (w:World) :
 Calls Tryz.prog 112 #[.agg #[.string y,iT d,iT s,.string t,iT r],.agg #[.string x,iT b,iT m,.string o,iT u]] w fun e w'=>e=.returned (iT (Lib.compareInt d b))∧∃q f,w'=grow (w.drewN q) f:=by
 obtain ⟨D,hD⟩:=aH (Lib.compareInt d b);have c2:∀w,Calls Tryz.prog 170 #[iT d,iT b] w fun e w'=>e=.returned (iT D)∧w'=w:=by rw [hD];exact ki d b
 rw [← hD];clear hD;go_enter Tryz.func112,Tryz.ntmps112
 go_wp2_with fail
 refine (c2 _).mono ?_;rintro e w' ⟨rfl,rfl⟩;go_wp2;go_ret;refine ⟨rfl,0,#[.cells #[.string y,iT d,iT s,.string t,iT r] 50,.cells #[.string x,iT b,iT m,.string o,iT u] 50],?_⟩;rw [pi,pi,grow_grow];rfl
def vy (x y:ac):Int:=Lib.compareInt x.2.1 y.2.1
theorem Bg:ltOf vy=uJ:=by
 funext x y
 unfold ltOf vy uJ Lib.compareInt;by_cases h:x.2.1<y.2.1
 · simp [h]
 · by_cases h2:x.2.1 > y.2.1 <;> simp [h,h2]
end Go.Proofs.YtpobkmjicbobdaaGreat
