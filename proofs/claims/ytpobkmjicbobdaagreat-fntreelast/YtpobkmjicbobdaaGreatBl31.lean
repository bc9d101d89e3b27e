/- Walks. -/
import Derived.Test.YtpobkmjicbobdaaGreatBl25
import Derived.Test.YtpobkmjicbobdaaGreatBl26
import Derived.Test.YtpobkmjicbobdaaGreatBl30
namespace Go.Proofs.YtpobkmjicbobdaaGreat
set_option maxRecDepth 100000
set_option maxHeartbeats 40000000
open Go.RowKit
variable {P P' X Z cap cm cm' cs cs' cv cv' len lo nm nm' ns ns' nv nv':Nat} {a ak ak' am am' av av':Option Addr} {e:Ending} {q q':Int} {v:Value} {w w' wi wj:World}
theorem lZ {n:Nat} {M:List ac} {A B C:List an} {S:List Int} {d:Bool} (h:tW q nm 3 n M [A,B,C] S d w e w') (b:lo≤w.heap.size) (htb:bf q M [A,B,C] S=true∧lN M A B C):mS lo w e w':=by
 obtain ⟨x,c1,G,c,u,c3,rfl,hC,hb⟩:=h;obtain ⟨t,g,m,o,f,s,r⟩:=hC.trS b;exact ⟨_,_,rfl,⟨q,_,_,_,G,c,_,_,_,t,g,m,_,o,f,_,s,M,A,B,C,S,rfl,r,htb⟩,gK.of hb⟩
theorem BL (lo:Nat) (v:Value) (w:World) (h:cL lo w v) (b:lo≤w.heap.size):Calls Tryz.prog 36 #[v] w (mS lo w):=by
 obtain ⟨q,am,nm,cm,G,c,ak,ns,cs,o,m,s,n,g,r,n2,t,M,A,B,C,S,rfl,d,htb⟩:=h;have hq:=aY htb.1;have f:=d.sn.length;refine (wP 0 q am nm cm _ 3 c ak ns cs M [A,B,C] S w d.treeIn (Dk (by omega)) htb.1).mono ?_;rintro e w' ⟨h1,h2⟩;by_cases hc:ns<4∧q ∉ S
 · exact lZ (h1 hc) b ⟨wy htb.1 (by omega) hc.2,htb.2⟩
 · exact lZ (h2 hc) b htb
theorem BO (lo:Nat) (v:Value) (d:Int) (w:World) (h:cL lo w v) (b:lo≤w.heap.size):Calls Tryz.prog 45 #[v,iT d] w (mS lo w):=by
 obtain ⟨q,am,nm,cm,G,c,ak,ns,cs,r,m,t,o,g,s,n2,u,M,A,B,C,S,rfl,f,htb⟩:=h;refine (wS 0 q am nm cm _ 3 c ak ns cs M [A,B,C] S d w f.treeIn htb.1).mono ?_;rintro e w' ⟨n,h1⟩;exact lZ h1 b ⟨wE htb.1 d,htb.2⟩
theorem Ba (lo:Nat) (v:Value) (o:Option Addr) (f r:Nat) (K:List ac) (w:World) (h:cL lo w v) (g:lo≤w.heap.size) (hK:ag w o f r K) (m:f≤1048576) (s:nh K):Calls Tryz.prog 98 #[v,.slice o f r] w (mS lo w):=by
 obtain ⟨q,am,nm,cm,G,c,ak,ns,cs,y,u,E,x,t,D,n2,F,M,A,B,C,S,rfl,d,htb⟩:=h;have hp:=aY htb.1;have H:=d.mem.len;refine (ul lo q am nm cm _ 3 c ak ns cs M [A,B,C] S o f r K w d.treeIn g d.mem hK m (by omega) hp.1 hp.2.1).mono ?_;rintro e w' ⟨h1,h2⟩;cases hw:gg q M K with
 | true =>
  obtain ⟨a,n,c',rfl,_,hb,hO⟩:=h1 hw;have b:=d.below hb;exact ⟨_,_,rfl,⟨_,a,n,c',G,c,ak,ns,cs,y,u,E,x,t,D,n2,F,_,A,B,C,S,rfl,⟨hO,b.row,b.rA,b.rB,b.rC,b.sn,b.sk⟩,ud htb.1 hw,nh.puts _ htb.2.1 s.stamped,htb.2.2⟩,gK.of hb⟩
 | false =>
  obtain ⟨rfl,hb⟩:=h2 hw;exact ⟨_,_,rfl,⟨q,am,nm,cm,G,c,ak,ns,cs,y,u,E,x,t,D,n2,F,M,A,B,C,S,rfl,d.below hb,htb⟩,gK.of hb⟩
theorem cL.read {R:Nat} {g:Option Addr} (h:cL lo w v) (hR:aZ w R g len cap P) (hl:R<lo) (hg:w.grownBy w' (some R)):cL lo w' v:=by
 obtain ⟨q,am,nm,cm,G,c,ak,ns,cs,n,d,s,f,b,o,n2,t,M,A,B,C,S,rfl,m,htb⟩:=h;have hs:=mT htb.1;exact ⟨q,am,nm,cm,G,c,ak,ns,cs,n,d,s,f,b,o,n2,t,M,A,B,C,S,rfl,m.read hR hl (fun r hr=>((hs B (by simp)).2 r hr).1) (fun r hr=>((hs C (by simp)).2 r hr).1) hg,htb⟩
def B3 (v:Value):Prop:=∃q am nm cm av nv cv ak ns cs,v=.agg #[iT q,.slice am nm cm,.slice av nv cv,.slice ak ns cs]
theorem cL.val (h:cL lo w v):B3 v:=by
 obtain ⟨q,am,nm,cm,G,c,ak,ns,cs,r,g,f,n,d,b,n2,m,M,A,B,C,S,rfl,o,htb⟩:=h;exact ⟨_,_,_,_,_,_,_,_,_,_,rfl⟩
theorem cL.four {z:Int} {a1 a2 a3 b1 b2 b3:Option Addr} {m1 k1 m2 k2 m3 k3 b D g o x d:Nat} (h:cL lo w v) (hk:au w X 31 4) (E:az w X (iT z) (.slice b1 b D) (.slice b2 g o) (.slice b3 x d)):cL lo ((((w.setCell ⟨X,0,none⟩ (iT q)).setCell ⟨X,1,none⟩ (.slice a1 m1 k1)).setCell ⟨X,2,none⟩ (.slice a2 m2 k2)).setCell ⟨X,3,none⟩ (.slice a3 m3 k3)) v:=by
 obtain ⟨q,am,nm,cm,G,c,ak,ns,cs,s,m,u,n,f,t,n2,y,M,A,B,C,S,rfl,r,htb⟩:=h;exact ⟨q,am,nm,cm,G,c,ak,ns,cs,s,m,u,n,f,t,n2,y,M,A,B,C,S,rfl,r.four hk E,htb⟩
theorem aZ.gr {R:Nat} (h:aZ w R a len cap P) (d:qM a len R) (hl:R<lo) (hg:gK lo none w w'):aZ w' R a len cap P:=by
 have hb:∀b,b<lo→b<w.heap.size→∀o,w'.cell? ⟨b,o,none⟩=w.cell? ⟨b,o,none⟩:=fun b h1 h2 o=>DJ (a:=⟨b,o,none⟩) (hg.block b h2 (by simp) (.inl h1))
 refine ⟨(hb R hl h.lt 0).trans h.c0,(hb R hl h.lt 1).trans h.c1,(Eq (a:=⟨R,1,none⟩) (hg.block R h.lt (by simp) (.inl hl))).trans h.f1,h.few,fun o=>(hb R hl h.lt _).trans (h.two o),?_⟩;rcases h.bytes with h0 | ⟨b,g,ha,m,f,hc⟩
 · exact .inl h0
 · rcases d with e | d
   · exact .inl e
   refine .inr ⟨b,g,ha,m,l' f hg.size,fun i hi=>?_⟩;obtain ⟨z,hz,n⟩:=hc i hi;have:=d b g ha;exact ⟨z,hz,(hb b (by omega) f _).trans n⟩
theorem az.gr {sz:Nat} {R:Option Nat} {u0 u1 u2 u3:Value} (h:az w X u0 u1 u2 u3) (hk:au w X 31 4) (hR:some X≠R) (hg:gK lo R w w') (_:sz=sz:=rfl):az w' X u0 u1 u2 u3:=by
 have hb:=hg.block X h.lt hR (.inr hk);have hc:∀o,w'.cell? ⟨X,o,none⟩=w.cell? ⟨X,o,none⟩:=fun o=>DJ (a:=⟨X,o,none⟩) hb
 exact ⟨(hc 0).trans h.c0,(hc 1).trans h.c1,(hc 2).trans h.c2,(hc 3).trans h.c3,fun o=>(Eq (a:=⟨X,o,none⟩) hb).trans (h.fz o)⟩
theorem au.gr {R:Option Nat} (hk:au w X 31 4) (hR:some X≠R) (hg:gK lo R w w'):au w' X 31 4:=hk.same (hg.block X hk.lt hR (.inr hk))
structure kQ (lo R:Nat) (a:Option Addr) (len cap P:Nat) (w wi:World) (X Z:Nat) (q:Int) (am:Option Addr) (nm cm:Nat) (av:Option Addr) (nv cv:Nat) (ak:Option Addr) (ns cs:Nat):Prop where
 rd:aZ wi R a len cap P
 bx:az wi X (iT q) (.slice am nm cm) (.slice av nv cv) (.slice ak ns cs)
 br:az wi Z (iT 0) nZ nZ nZ
 kx:au wi X 31 4∧au wi Z 31 4
 good:cL lo wi (.agg #[iT q,.slice am nm cm,.slice av nv cv,.slice ak ns cs])
 low:gK lo (some R) w wi
 top:lo≤w.heap.size∧w.heap.size≤X∧R<lo∧qM a len R∧w.heap.size≤Z∧X≠Z
theorem kQ.below {R:Nat} (h:kQ lo R a len cap P w wi X Z q am nm cm av nv cv ak ns cs) (hb:Bl wi wj):kQ lo R a len cap P w wj X Z q am nm cm av nv cv ak ns cs :=
 ⟨h.rd.below hb,h.bx.keep hb,h.br.keep hb,⟨h.kx.1.below hb,h.kx.2.below hb⟩,h.good.below hb,h.low.next hb,h.top⟩
theorem kQ.read {R:Nat} (h:kQ lo R a len cap P w wi X Z q am nm cm av nv cv ak ns cs) (hg:wi.grownBy wj (some R)) (hr:aZ wj R a len cap P'):kQ lo R a len cap P' w wj X Z q am nm cm av nv cv ak ns cs :=
 have h1:X≠R:=by have:=h.top;omega
 have h2:Z≠R:=by have:=h.top;omega
 ⟨hr,h.bx.grownB hg h1,h.br.grownB hg h2,⟨h.kx.1.grown hg h1,h.kx.2.grown hg h2⟩,h.good.read h.rd h.top.2.2.1 hg,h.low.any hg,h.top⟩
theorem kQ.did {R:Nat} (h:kQ lo R a len cap P w wi X Z q am nm cm av nv cv ak ns cs) (hg:gK lo none wi wj) (hv:cL lo wj (.agg #[iT q',.slice am' nm' cm',.slice av' nv' cv',.slice ak' ns' cs'])) :
 az wj X (iT q) (.slice am nm cm) (.slice av nv cv) (.slice ak ns cs)∧kQ lo R a len cap P w ((((wj.setCell ⟨X,0,none⟩ (iT q')).setCell ⟨X,1,none⟩ (.slice am' nm' cm')).setCell ⟨X,2,none⟩ (.slice av' nv' cv')).setCell ⟨X,3,none⟩ (.slice ak' ns' cs')) X Z q' am' nm' cm' av' nv' cv' ak' ns' cs':=by
 have f:=h.top;have hx:=h.bx.gr (sz:=0) h.kx.1 (by simp) hg;have hr:=h.br.gr (sz:=0) h.kx.2 (by simp) hg;have k1:=h.kx.1.gr (by simp) hg;have k2:=h.kx.2.gr (by simp) hg;have n:=h.rd.gr f.2.2.2.1 f.2.2.1 hg;have d:∀b m,a=some ⟨b,m,none⟩→0<len→b≠X:=fun b m e hl=>by
  rcases f.2.2.2.1 with h0 | h0
  · omega
  · have:=h0 b m e;omega
 have g:X≠R:=by omega
 refine ⟨hx,⟨(((n.other g d _ _).other g d _ _).other g d _ _).other g d _ _,(((hx.set0 _).set1 _).set2 _).set3 _,(((hr.other f.2.2.2.2.2 _).other f.2.2.2.2.2 _).other f.2.2.2.2.2 _).other f.2.2.2.2.2 _,⟨(((k1.setCell _).setCell _).setCell _).setCell _,(((k2.setCell _).setCell _).setCell _).setCell _⟩,hv.four k1 hx,(h.low.trans hg.weak).four (by omega) f.2.1 _ _ _ _,f⟩⟩
theorem kQ.acted {R:Nat} (h:kQ lo R a len cap P w wi X Z q am nm cm av nv cv ak ns cs) (hg:gK lo (some R) wi wj) (o:aZ wj R a len cap P') (hv:cL lo wj (.agg #[iT q',.slice am' nm' cm',.slice av' nv' cv',.slice ak' ns' cs'])) :
 az wj X (iT q) (.slice am nm cm) (.slice av nv cv) (.slice ak ns cs)∧kQ lo R a len cap P' w ((((wj.setCell ⟨X,0,none⟩ (iT q')).setCell ⟨X,1,none⟩ (.slice am' nm' cm')).setCell ⟨X,2,none⟩ (.slice av' nv' cv')).setCell ⟨X,3,none⟩ (.slice ak' ns' cs')) X Z q' am' nm' cm' av' nv' cv' ak' ns' cs':=by
 have g:=h.top;have f:X≠R:=by omega
 have n:Z≠R:=by omega
 have hx:=h.bx.gr (sz:=0) h.kx.1 (fun e=>f (CZ e)) hg;have hr:=h.br.gr (sz:=0) h.kx.2 (fun e=>n (CZ e)) hg;have k1:=h.kx.1.gr (fun e=>f (CZ e)) hg;have k2:=h.kx.2.gr (fun e=>n (CZ e)) hg;have d:∀b m,a=some ⟨b,m,none⟩→0<len→b≠X:=fun b m e hl=>by
  rcases g.2.2.2.1 with h0 | h0
  · omega
  · have:=h0 b m e;omega
 refine ⟨hx,⟨(((o.other f d _ _).other f d _ _).other f d _ _).other f d _ _,(((hx.set0 _).set1 _).set2 _).set3 _,(((hr.other g.2.2.2.2.2 _).other g.2.2.2.2.2 _).other g.2.2.2.2.2 _).other g.2.2.2.2.2 _,⟨(((k1.setCell _).setCell _).setCell _).setCell _,(((k2.setCell _).setCell _).setCell _).setCell _⟩,hv.four k1 hx,(h.low.trans hg).four (by omega) g.2.1 _ _ _ _,g⟩⟩
def AcE (lo R:Nat) (a:Option Addr) (len cap P:Nat) (w wi:World) (X Z:Nat):Prop:=∃P' q am nm cm av nv cv ak ns cs,kQ lo R a len cap P' w wi X Z q am nm cm av nv cv ak ns cs∧P'≤P+210
def BI (lo R:Nat) (a:Option Addr) (len cap P d:Nat) (w:World) (e:Ending) (w':World):Prop:=∃v P',e=.returned v∧cL lo w' v∧aZ w' R a len cap P'∧P'≤P+d∧gK lo (some R) w w'
theorem mS.parts (h:mS lo w e w'):∃q am nm cm av nv cv ak ns cs b,e=.returned (.tuple #[.agg #[iT q,.slice am nm cm,.slice av nv cv,.slice ak ns cs],.bool b])∧cL lo w' (.agg #[iT q,.slice am nm cm,.slice av nv cv,.slice ak ns cs])∧gK lo none w w':=by
 obtain ⟨v,b,rfl,hg,hl⟩:=h;obtain ⟨q,am,nm,cm,av,nv,cv,ak,ns,cs,rfl⟩:=hg.val;exact ⟨q,am,nm,cm,av,nv,cv,ak,ns,cs,b,rfl,hg,hl⟩
theorem AF (h:cL lo w (.agg #[iT q,.slice am nm cm,.slice av nv cv,.slice ak ns cs])):ns≤4:=by
 obtain ⟨q',am',nm',cm',G,c,ak',ns',cs',r,m,g,o,f,d,n2,n,M,A,B,C,S,e,b,htb⟩:=h;cases e;have:=b.sn.length;have:=ld htb.1;omega
theorem xL (h:cL lo w (.agg #[iT q,.slice am nm cm,.slice av nv cv,.slice ak ns cs])) {j:Nat} (g:j<ns):∃b d z,ak=some ⟨b,d,none⟩∧w.cell? ⟨b,d+j,none⟩=some (iT z)∧b<w.heap.size:=by
 obtain ⟨q',am',nm',cm',G,c,ak',ns',cs',r,n,t,o,m,s,n2,u,M,A,B,C,S,e,f,htb⟩:=h;cases e;obtain ⟨b,d,rfl,hb⟩:=f.sn.form (by omega);obtain ⟨z,_,_,hz⟩:=f.sn.num (Below.refl _ w) j g;exact ⟨b,d,z,rfl,hz,hb⟩
theorem xv (R P lo:Nat) (a:Option Addr) (len cap:Nat) (v:Value) (w:World) (h:aZ w R a len cap P) (N:qM a len R) (hP:P<80000) (hR:R<lo) (Y:lo≤w.heap.size) (hg:cL lo w v) :
 Calls Tryz.prog 77 #[.pointer (pT R),v] w (BI lo R a len cap P 210 w):=by
 obtain ⟨q,am,nm,cm,av,nv,cv,ak,ns,cs,rfl⟩:=hg.val;obtain ⟨X,U⟩:=aH w.heap.size;obtain ⟨W,Q⟩:=aH ((w.alloc (.cells #[iT q,.slice am nm cm,.slice av nv cv,.slice ak ns cs] 31)).alloc (.cells #[iT 0,nZ,nZ,nZ] 31));have kW:Bl w W:=by rw [Q];exact bZ.alloc (by simp) _
 have bx:az W X (iT q) (.slice am nm cm) (.slice av nv cv) (.slice ak ns cs):=by rw [Q,U];exact (az.new _ _ _ _ _ _).alloc _
 have br:az W (X+1) (iT 0) nZ nZ nZ∧au W (X+1) 31 4:=by
  have:=az.new (w.alloc (.cells #[iT q,.slice am nm cm,.slice av nv cv,.slice ak ns cs] 31)) 31 (iT 0) nZ nZ nZ;rw [Dc] at this;rw [Q,U];have h2:=cy (w.alloc (.cells #[iT q,.slice am nm cm,.slice av nv cv,.slice ak ns cs] 31)) #[iT 0,nZ,nZ,nZ] 31;rw [Dc] at h2;exact ⟨this,h2⟩
 have kX:au W X 31 4:=by rw [Q,U];exact (cy w #[iT q,.slice am nm cm,.slice av nv cv,.slice ak ns cs] 31).below bZ
 have S0:CG (kQ lo R a len cap P w W X (X+1) q am nm cm av nv cv ak ns cs):=⟨h.below kW,bx,br.1,⟨kX,br.2⟩,hg.below kW,gK.of kW,Y,Nat.le_of_eq U.symm,hR,N,by omega,by omega⟩;clear h N hR Y hg kW bx br kX;go_enter Tryz.func77,Tryz.ntmps77
 go_upto_region 1 with fail
 rw [← U,← Q];clear U Q;go_wp2_with fail
 refine (bX R P a len cap 10 _ S0.o.rd (by omega) (by omega)).mono ?_;rintro e H ⟨k,rfl,hk,a1,a5⟩;have af:0≤k∧k<10:=⟨hk.1,hk.2 (by omega)⟩;have m:CG (kQ lo R a len cap (P+1) w H X (X+1) q am nm cm av nv cv ak ns cs):=S0.o.read a5 a1;clear S0 a5 a1 hk;go_upto_block 0 with fail
 go_cut [14] (fun _ wz=>AcE lo R a len cap P w wz X (X+1))
 case first =>
  by_cases k0:k=0
  · subst k0;have x0:=m.o.bx.all;go_wp2_with fail
    clear x0;refine (zH lo _ _ m.o.good (C8 m.o.top.1 m.o.low.size)).mono ?_;rintro e w2 hA;obtain ⟨q',am',nm',cm',av',nv',cv',ak',ns',cs',T,rfl,r,s⟩:=hA.parts;obtain ⟨f,hS⟩:=m.o.did s r;have F:=bO hS;have x0:=f.all;clear hS hA r s;go_wp2;go_meet
    exact ⟨P+1,q',am',nm',cm',av',nv',cv',ak',ns',cs',F.o,by omega⟩
  have aG:(k == 0)=false:=by simpa using k0
  by_cases k1:k=1
  · subst k1;have x0:=m.o.bx.all;go_wp2_with fail
    clear x0;refine (zH lo _ _ m.o.good (C8 m.o.top.1 m.o.low.size)).mono ?_;rintro e w2 hA;obtain ⟨q',am',nm',cm',av',nv',cv',ak',ns',cs',T,rfl,r,s⟩:=hA.parts;obtain ⟨f,hS⟩:=m.o.did s r;have F:=bO hS;have x0:=f.all;clear hS hA r s;go_wp2;go_meet
    exact ⟨P+1,q',am',nm',cm',av',nv',cv',ak',ns',cs',F.o,by omega⟩
  have aR:(k == 1)=false:=by simpa using k1
  by_cases k2:k=2
  · subst k2;have d:CG (∀w',az w' X (iT q) (.slice am nm cm) (.slice av nv cv) (.slice ak ns cs)→(fun w':World=>w'.cell? ⟨X,0,none⟩=some (iT q)∧w'.cell? ⟨X,1,none⟩=some (.slice am nm cm)∧w'.cell? ⟨X,2,none⟩=some (.slice av nv cv)∧w'.cell? ⟨X,3,none⟩=some (.slice ak ns cs)∧X<w'.heap.size) w'):=fun w' b=>⟨b.c0,b.c1,b.c2,b.c3,b.lt⟩
    have A:CG (kQ lo R a len cap (P+1) w H.drew X (X+1) q am nm cm av nv cv ak ns cs):=m.o.below (Below.refl _ H).drew;go_upto_region 7 with fail
    refine Bw 9 d A.o.bx fun n=>?_
    generalize H.drew=wd at n A ⊢;refine sa 0 2 n ?_;refine sa 3 1 n ?_;refine pz 2 fun K hK=>?_
    go_simp;refine (bX R (P+1) a len cap 2 _ A.o.rd (by omega) (by omega)).mono ?_;rintro e L ⟨ka,rfl,hk,D,y⟩;have x:CG (kQ lo R a len cap (P+1+1) w L X (X+1) q am nm cm av nv cv ak ns cs):=A.o.read y D;have aF:0≤ka∧(1≤(2:Int)→ka<2):=hk;clear y D hk A;go_wp2_with fail
    refine hK.o _ _ (d.o _ x.o.bx) fun n=>?_
    (try go_frame);refine pz 4 fun K hK=>?_
    go_simp;refine (bX R (P+1+1) a len cap 3 _ x.o.rd (by omega) (by omega)).mono ?_;rintro e w4 ⟨kb,rfl,hk,D,y⟩;have S4:CG (kQ lo R a len cap (P+1+1+1) w w4 X (X+1) q am nm cm av nv cv ak ns cs):=x.o.read y D;have aU:0≤kb∧(1≤(3:Int)→kb<3):=hk;clear y D hk x;go_wp2_with fail
    refine hK.o _ _ (d.o _ S4.o.bx) fun n=>?_
    (try go_frame);refine pz 5 fun K hK=>?_
    go_simp;refine (tG lo _ ka kb _ S4.o.good (C8 S4.o.top.1 S4.o.low.size)).mono ?_;rintro e w9 hA;obtain ⟨q',am',nm',cm',av',nv',cv',ak',ns',cs',T,rfl,C,B⟩:=hA.parts;obtain ⟨f,hS⟩:=S4.o.did B C;have F:=bO hS;have t:CG (az w9 X (iT q) (.slice am nm cm) (.slice av nv cv) (.slice ak ns cs)):=f;clear hS hA C B f;go_wp2_with fail
    refine hK.o _ _ (d.o _ t.o) fun n=>?_
    (try go_frame);refine sa 6 2 n ?_;refine Cg 8 n ?_;refine Bh 9 fun K hK=>?_
    have x0:=t.o.all;go_simp;refine hK.o _ _ ?_;clear hK K;(try go_frame);refine dZ ?_;clear x0 n d t;go_wp2;go_meet
    exact ⟨P+1+1+1,q',am',nm',cm',av',nv',cv',ak',ns',cs',F.o,by omega⟩
  have aM:(k == 2)=false:=by simpa using k2
  by_cases k3:k=3
  · subst k3;have x0:=m.o.bx.all;go_wp2_with fail
    clear x0;refine (tG lo _ 0 0 _ m.o.good (C8 m.o.top.1 m.o.low.size)).mono ?_;rintro e w2 hA;obtain ⟨q',am',nm',cm',av',nv',cv',ak',ns',cs',T,rfl,r,s⟩:=hA.parts;obtain ⟨f,hS⟩:=m.o.did s r;have F:=bO hS;have x0:=f.all;clear hS hA r s;go_wp2;go_meet
    exact ⟨P+1,q',am',nm',cm',av',nv',cv',ak',ns',cs',F.o,by omega⟩
  have aN:(k == 3)=false:=by simpa using k3
  by_cases k4:k=4
  · subst k4;have x0:=m.o.bx.all;go_wp2_with fail
    clear x0;refine (BL lo _ _ m.o.good (C8 m.o.top.1 m.o.low.size)).mono ?_;rintro e w2 hA;obtain ⟨q',am',nm',cm',av',nv',cv',ak',ns',cs',T,rfl,r,s⟩:=hA.parts;obtain ⟨f,hS⟩:=m.o.did s r;have F:=bO hS;have x0:=f.all;clear hS hA r s;go_wp2;go_meet
    exact ⟨P+1,q',am',nm',cm',av',nv',cv',ak',ns',cs',F.o,by omega⟩
  have aS:(k == 4)=false:=by simpa using k4
  by_cases k5:k=5
  · subst k5;have a2:CG (ns≤4∧∀w':World,cL lo w' (.agg #[iT q,.slice am nm cm,.slice av nv cv,.slice ak ns cs])→∀j,j<ns→∃b u z,ak=some ⟨b,u,none⟩∧w'.cell? ⟨b,u+j,none⟩=some (iT z)∧b<w'.heap.size):=⟨AF m.o.good,fun w' hg j hj=>xL hg hj⟩;by_cases aP:0<ns
    · have aQ:(ns:Int) > 0:=by omega
      have aA:=a2.o.1;have x0:=m.o.bx.all;go_upto_region 14 with fail
      clear x0;have d:CG (∀w',az w' X (iT q) (.slice am nm cm) (.slice av nv cv) (.slice ak ns cs)→(fun w':World=>w'.cell? ⟨X,0,none⟩=some (iT q)∧w'.cell? ⟨X,1,none⟩=some (.slice am nm cm)∧w'.cell? ⟨X,2,none⟩=some (.slice av nv cv)∧w'.cell? ⟨X,3,none⟩=some (.slice ak ns cs)∧X<w'.heap.size) w'):=fun w' b=>⟨b.c0,b.c1,b.c2,b.c3,b.lt⟩
      have A:CG (kQ lo R a len cap (P+1) w H.drew X (X+1) q am nm cm av nv cv ak ns cs):=m.o.below (Below.refl _ H).drew;refine Bw 14 d A.o.bx fun n=>?_
      generalize H.drew=wd at n A ⊢;refine sa 0 7 n ?_;refine pz 7 fun K hK=>?_
      go_simp;refine (bX R (P+1) a len cap (ns:Int) _ A.o.rd (by omega) (by omega)).mono ?_;rintro e L ⟨kc,rfl,hk,D,y⟩;have x:CG (kQ lo R a len cap (P+1+1) w L X (X+1) q am nm cm av nv cv ak ns cs):=A.o.read y D;have O:0≤kc∧(1≤((ns:Int):Int)→kc<(ns:Int)):=hk;clear y D hk A;go_wp2_with fail
      refine hK.o _ _ (d.o _ x.o.bx) fun n=>?_
      (try go_frame);have ab:0≤kc:=O.1;have aK:kc<(ns:Int):=O.2 (by omega);obtain ⟨kn,rfl⟩:=DL ab;have a8:kn<ns:=by omega
      obtain ⟨b,u,z,rfl,hz⟩:=a2.o.2 _ x.o.good kn a8;have HZ:CG (L.cell? ⟨b,u+kn,none⟩=some (iT z)∧b<L.heap.size):=hz;clear hz O;refine sa 8 1 n ?_;refine pz 9 fun K hK=>?_
      have hz:=HZ.o.1;have ac:=HZ.o.2;go_simp;clear hz ac;refine hK.o _ _ (d.o _ x.o.bx) fun n=>?_
      (try go_frame);refine pz 10 fun K hK=>?_
      go_simp;refine (BO lo _ z _ x.o.good (C8 x.o.top.1 x.o.low.size)).mono ?_;rintro e w9 hA;obtain ⟨q',am',nm',cm',av',nv',cv',ak',ns',cs',T,rfl,C,B⟩:=hA.parts;obtain ⟨f,hS⟩:=x.o.did B C;have F:=bO hS;have t:CG (az w9 X (iT q) (.slice am nm cm) (.slice av nv cv) (sO b u ns cs)):=f;clear hS hA C B f;go_wp2_with fail
      refine hK.o _ _ (d.o _ t.o) fun n=>?_
      (try go_frame);refine sa 11 2 n ?_;refine Cg 13 n ?_;refine Bh 14 fun K hK=>?_
      have x0:=t.o.all;go_simp;refine hK.o _ _ ?_;clear hK K;(try go_frame);refine dZ ?_;clear x0 n d t;go_wp2;go_meet
      exact ⟨P+1+1,q',am',nm',cm',av',nv',cv',ak',ns',cs',F.o,by omega⟩
    · have x0:=m.o.bx.all;obtain rfl:ns=0:=by omega
      go_wp2;go_meet
      exact ⟨P+1,_,_,_,_,_,_,_,_,_,_,m.o,by omega⟩
  have aE:(k == 5)=false:=by simpa using k5
  have d:CG (∀w',az w' X (iT q) (.slice am nm cm) (.slice av nv cv) (.slice ak ns cs)→(fun w':World=>w'.cell? ⟨X,0,none⟩=some (iT q)∧w'.cell? ⟨X,1,none⟩=some (.slice am nm cm)∧w'.cell? ⟨X,2,none⟩=some (.slice av nv cv)∧w'.cell? ⟨X,3,none⟩=some (.slice ak ns cs)∧X<w'.heap.size) w'):=fun w' b=>⟨b.c0,b.c1,b.c2,b.c3,b.lt⟩
  have A:CG (kQ lo R a len cap (P+1) w H.drew X (X+1) q am nm cm av nv cv ak ns cs):=m.o.below (Below.refl _ H).drew;go_upto_region 2 with fail
  refine Bw 7 d A.o.bx fun n=>?_
  generalize H.drew=wd at n A ⊢;refine sa 0 2 n ?_;refine pz 2 fun K hK=>?_
  go_simp;refine (tr R (P+1) a len cap _ A.o.rd (by omega)).mono ?_;rintro e L ⟨g,nb,cb,P',K3,rfl,hO,hF,hn,a4,aD,a6⟩;have x:CG (kQ lo R a len cap P' w L X (X+1) q am nm cm av nv cv ak ns cs):=A.o.read a6 a4;have HE:CG (ag L (pT g) nb cb K3∧nh K3):=⟨hO.entsAt,fun l hl=>(hF l hl).1.2.2⟩;clear hO hF a4 a6 A;go_wp2_with fail
  refine hK.o _ _ (d.o _ x.o.bx) fun n=>?_
  (try go_frame);refine pz 3 fun K hK=>?_
  go_simp;refine (Ba lo _ _ _ _ K3 _ x.o.good (C8 x.o.top.1 x.o.low.size) HE.o.1 (by omega) HE.o.2).mono ?_;rintro e w9 hA;obtain ⟨q',am',nm',cm',av',nv',cv',ak',ns',cs',T,rfl,C,B⟩:=hA.parts;obtain ⟨f,hS⟩:=x.o.did B C;have F:=bO hS;have t:CG (az w9 X (iT q) (.slice am nm cm) (.slice av nv cv) (.slice ak ns cs)):=f;clear hS hA C B f;go_wp2_with fail
  refine hK.o _ _ (d.o _ t.o) fun n=>?_
  (try go_frame);refine sa 4 2 n ?_;refine Cg 6 n ?_;refine Bh 7 fun K hK=>?_
  have x0:=t.o.all;go_simp;refine hK.o _ _ ?_;clear hK K;(try go_frame);refine dZ ?_;clear x0 n d t;go_wp2;go_meet
  exact ⟨P',q',am',nm',cm',av',nv',cv',ak',ns',cs',F.o,by omega⟩
 case rest =>
  obtain ⟨P',q,am,nm,cm,av,nv,cv,ak,ns,cs,hS,aj⟩:=hcut;have J:CG (kQ lo R a len cap P' w wc X (X+1) q am nm cm av nv cv ak ns cs):=hS;have x0:=hS.bx.all;have r0:=hS.br.all;clear hS m af;go_wp2;refine bodyPost_ret (v:=.agg #[iT q,.slice am nm cm,.slice av nv cv,.slice ak ns cs]) ?_ rfl ⟨_,P',rfl,J.o.good.four J.o.kx.2 J.o.br,?_,aj,J.o.low.four (by have:=J.o.top;omega) (by have:=J.o.top;omega) _ _ _ _⟩
  · have e:=(((J.o.br.set0 (iT q)).set1 (.slice am nm cm)).set2 (.slice av nv cv)).set3 (.slice ak ns cs);simp [results,Tryz.results77,go_sem,e.all]
  · have ht:=J.o.top;have I:X+1≠R:=by omega
    have E:∀b u,a=some ⟨b,u,none⟩→0<len→b≠X+1:=fun b u e hl=>by
     rcases ht.2.2.2.1 with h0 | h0
     · omega
     · have:=h0 b u e;omega
    exact (((J.o.rd.other I E _ _).other I E _ _).other I E _ _).other I E _ _
theorem nV (p:Nat→Prop) (g:Nat) (w:World):cX p w (pT g) 0 0 [] :=
 ⟨⟨rfl,Cy _,C3 _,fun _=>rfl,(fun _ _ h=>absurd h (Nat.lt_irrefl _)),fun _ _ _ h=>absurd h (DP _)⟩,fun _ _ h=>absurd h (Nat.lt_irrefl _)⟩
def BF (w:World) (e:Ending) (w':World):Prop:=∃v,e=.returned v∧cL w.heap.size w' v∧Bl w w'
theorem Ci (w:World):Calls Tryz.prog 136 #[] w (BF w):=by
 go_enter Tryz.func136,Tryz.ntmps136
 go_wp2;refine bodyPost_ret (v:=.agg #[iT 0,nZ,sL (w.heap.size+1+1+1+1) 3 3,nZ]) (by simp [results,Tryz.results136,go_sem]) rfl ?_;obtain ⟨w0,d⟩:=aH (w.alloc (.cells #[iT 0,nZ,sL (w.heap.size+1+1+1+1) 3 3,nZ] 31));have m:Bl w w0:=by rw [d];exact bZ
 have n:w0.heap.size=w.heap.size+1:=by rw [d];simp
 rw [← d];clear d;obtain ⟨w1,b⟩:=aH (w0.alloc (.cells #[] 63));have h1:w1.heap[w.heap.size+1]?=some (.cells #[] 63 (0,0)):=by rw [b,← n];unfold World.alloc;exact DT
 have k1:Bl w0 w1:=by rw [b];exact bZ
 have t:w1.heap.size=w.heap.size+1+1:=by rw [b];simp [n]
 rw [← b];clear b;obtain ⟨w3,f⟩:=aH ((w1.alloc (.cells #[] 63)).alloc (.cells #[] 63));have k3:Bl w1 w3:=by rw [f];exact bZ.alloc (by simp) _
 have r:w3.heap.size=w.heap.size+1+1+1+1:=by rw [f];simp [t]
 rw [← f];clear f;have o:Bl w3 (w3.alloc (.cells #[sL (w.heap.size+1) 0 0,sL (w.heap.size+1+1) 0 0,sL (w.heap.size+1+1+1) 0 0] 61)):=bZ;have g:=Do (base:=w.heap.size) (e:=61) (size:=1) w3 #[sL (w.heap.size+1) 0 0,sL (w.heap.size+1+1) 0 0,sL (w.heap.size+1+1+1) 0 0] 3 (by omega) (by unfold maxLen;omega) (by simp);rw [r] at g;have hA:=((k3.trans (o.mono k3.size)).block (w.heap.size+1) (by omega)).trans h1;have s:=((m.trans (k1.mono m.size)).trans (k3.mono (C8 m.size k1.size))).trans (o.mono (by omega));exact ⟨_,rfl,⟨0,none,0,0,w.heap.size+1+1+1+1,3,none,0,0,w.heap.size+1,0,w.heap.size+1+1,0,0,w.heap.size+1+1+1,0,0,[],[],[],[],[],rfl,⟨cH.none _ _,g,nW hA (by omega),nV _ _ _,nV _ _ _,⟨rfl,Cy _,C3 _,(fun _ h=>by cases h),(fun _=>rfl),(fun x e=>by cases e),(fun x e=>by cases e)⟩,fun x e=>by cases e⟩,by rfl,rh,mU,mU,mU⟩,s⟩
def pl (v:Value):Prop:=∃q g1 nm c1 av nv cv g3 ns c3,v=.agg #[iT q,sL g1 nm c1,.slice av nv cv,sL g3 ns c3]
def Ck (lo:Nat) (w:World) (v:Value):Prop:=∃q am nm cm av nv cv ak ns cs M V S,v=.agg #[iT q,.slice am nm cm,.slice av nv cv,.slice ak ns cs]∧b6 lo w am nm cm av nv cv ak ns cs M V S
def Cn (w:World) (e:Ending) (w':World):Prop:=∃q am nm cm av nv cv ak ns cs,e=.returned (.agg #[iT q,.slice am nm cm,.slice av nv cv,.slice ak ns cs])∧cL w.heap.size w' (.agg #[iT q,.slice am nm cm,.slice av nv cv,.slice ak ns cs])∧Bl w w'∧pl (.agg #[iT q,.slice am nm cm,.slice av nv cv,.slice ak ns cs])∧Ck w.heap.size w' (.agg #[iT q,.slice am nm cm,.slice av nv cv,.slice ak ns cs])
theorem BU (lo:Nat) (v:Value) (w:World) (h:cL lo w v):Calls Tryz.prog 57 #[v] w (Cn w):=by
 obtain ⟨q,am,nm,cm,G,c,ak,ns,cs,D,x,F,y,u,E,n2,I,M,A,B,C,S,rfl,b,htb⟩:=h;have hM:=(aY htb.1).2.2.1;have hS:=ld htb.1;have n:=b.mem.len;have hsl:=b.sn.length;refine (ib 0 q am _ ak nm cm 3 c ns cs M [A,B,C] S w b.treeIn (by omega) (by omega) (by omega) (mT htb.1)).mono ?_;rintro e w' ⟨J,c1,s,c',H,c3,rfl,hC,hb⟩;obtain ⟨g,d,o,r,m,t,f⟩:=hC.trS (Cy _);exact ⟨q,_,_,_,_,_,_,_,_,_,rfl,⟨q,_,_,_,s,c',_,_,_,g,d,o,_,r,m,_,t,M,A,B,C,S,rfl,f,htb⟩,hb,⟨q,_,_,_,_,_,_,_,_,_,rfl⟩,⟨q,_,_,_,_,_,_,_,_,_,_,_,_,rfl,hC.treeIn⟩⟩
def Cj (R:Nat) (a:Option Addr) (len cap P d:Nat) (w:World) (e:Ending) (w':World):Prop:=∃v P',e=.returned v∧cL w.heap.size w' v∧aZ w' R a len cap P'∧P'≤P+d∧w.grownBy w' (some R)∧pl v∧Ck w.heap.size w' v
theorem xK {R:Option Nat} (h:gK w.heap.size R w w'):w.grownBy w' R:=⟨h.os,h.tape,h.output,h.size,fun k hk hn=>h.block k hk hn (.inl hk)⟩
def Cm (z:Int):Prop:=0≤z∧z≤24
theorem BF.parts (h:BF w e w'):∃q am nm cm av nv cv ak ns cs,e=.returned (.agg #[iT q,.slice am nm cm,.slice av nv cv,.slice ak ns cs])∧cL w.heap.size w' (.agg #[iT q,.slice am nm cm,.slice av nv cv,.slice ak ns cs])∧Bl w w':=by
 obtain ⟨v,rfl,hg,hl⟩:=h;obtain ⟨q,am,nm,cm,av,nv,cv,ak,ns,cs,rfl⟩:=hg.val;exact ⟨q,am,nm,cm,av,nv,cv,ak,ns,cs,rfl,hg,hl⟩
theorem BI.parts {R d:Nat} (h:BI lo R a len cap P d w e w'):∃q am nm cm av nv cv ak ns cs P',e=.returned (.agg #[iT q,.slice am nm cm,.slice av nv cv,.slice ak ns cs])∧cL lo w' (.agg #[iT q,.slice am nm cm,.slice av nv cv,.slice ak ns cs])∧aZ w' R a len cap P'∧P'≤P+d∧gK lo (some R) w w':=by
 obtain ⟨v,P',rfl,hg,h1,h2,h3⟩:=h;obtain ⟨q,am,nm,cm,av,nv,cv,ak,ns,cs,rfl⟩:=hg.val;exact ⟨q,am,nm,cm,av,nv,cv,ak,ns,cs,P',rfl,hg,h1,h2,h3⟩
theorem uP (R P:Nat) (a:Option Addr) (len cap:Nat) (w:World) (h:aZ w R a len cap P) (K:qM a len R) (hP:P<60000) :
 Calls Tryz.prog 74 #[.pointer (pT R)] w (Cj R a len cap P 6000 w):=by
 obtain ⟨Z,hZ⟩:=aH w.heap.size;obtain ⟨W,hW⟩:=aH (w.alloc (.cells #[iT 0,nZ,nZ,nZ] 31));have kW:Bl w W:=by rw [hW];exact bZ
 have br:az W Z (iT 0) nZ nZ nZ∧au W Z 31 4:=by rw [hW,hZ];exact ⟨az.new _ _ _ _ _ _,cy w #[iT 0,nZ,nZ,nZ] 31⟩
 have ae:=h.lt;have F:CG (az W Z (iT 0) nZ nZ nZ∧au W Z 31 4∧w.heap.size≤Z):=⟨br.1,br.2,Nat.le_of_eq hZ.symm⟩;have a9:CG (aZ W R a len cap P):=h.below kW;have D:CG (Bl w W):=kW;have an:=bO K;clear h K br kW;go_enter Tryz.func74,Tryz.ntmps74
 go_wp2_with fail
 rw [← hW,← hZ];clear hW hZ;refine (Ci W).mono ?_;rintro e w1 hN;obtain ⟨q,am,nm,cm,av,nv,cv,ak,ns,cs,rfl,ar,E⟩:=hN.parts;obtain ⟨X,Q⟩:=aH w1.heap.size;obtain ⟨w2,H⟩:=aH (w1.alloc (.cells #[iT q,.slice am nm cm,.slice av nv cv,.slice ak ns cs] 31));have S0:CG (kQ w.heap.size R a len cap P w w2 X Z q am nm cm av nv cv ak ns cs):=by
  have k2:Bl w1 w2:=by rw [H];exact bZ
  have b8:=F.o.1.lt;have ai:=E.size;refine ⟨(a9.o.below E).below k2,by rw [H,Q];exact az.new _ _ _ _ _ _,(F.o.1.keep E).keep k2,⟨by rw [H,Q];exact cy w1 #[iT q,.slice am nm cm,.slice av nv cv,.slice ak ns cs] 31,(F.o.2.1.below E).below k2⟩,?_,gK.of ((D.o.trans (E.mono D.o.size)).trans (k2.mono (C8 D.o.size ai))),Cy _,?_,ae,an.o,F.o.2.2,?_⟩
  · obtain ⟨q',am',nm',cm',G,c,ak',ns',cs',gA,dA,e1,n1,d1,e2,n2,d2,M,A,B,C,S,e,hT,htb⟩:=ar.below k2;exact ⟨q',am',nm',cm',G,c,ak',ns',cs',gA,dA,e1,n1,d1,e2,n2,d2,M,A,B,C,S,e,hT.mono D.o.size,htb⟩
  · rw [Q];exact C8 D.o.size ai
  · rw [Q];omega
 clear hN ar E F a9 D;go_upto_region 2 with fail
 rw [← H,← Q];clear H Q;go_wp2_with fail
 have kc:Bl w2 (w2.alloc (.cells ((([4,8,12,18,24,2,0]:List Int).map iT).toArray) 3)):=bZ;refine (dF Cm R P a len cap w2.heap.size 0 7 7 _ (S0.o.rd.below kc) (by omega) (by omega) (by omega) (by have:=S0.o.rd.lt;omega) (by simp) (dl w2 3 [4,8,12,18,24,2,0] Cm ?_)).mono ?_
 · intro s hs;simp only [Da,Dr,or_false] at hs;rcases hs with rfl | rfl | rfl | rfl | rfl | rfl | rfl <;> (unfold Cm;omega)
 rintro e w3 ⟨z,rfl,hz,aq,ay⟩;have S3:CG (kQ w.heap.size R a len cap (P+1) w w3 X Z q am nm cm av nv cv ak ns cs):=(S0.o.below kc).read ay aq;obtain ⟨N,rfl⟩:=DL hz.1;have hN:N≤24:=by have:=hz.2;omega
 clear kc aq ay hz S0;go_wp2;go_loopw [4] (fun iv wr=>∃(i P':Nat) (q:Int) (am:Option Addr) (nm cm:Nat) (av:Option Addr) (nv cv:Nat) (ak:Option Addr) (ns cs:Nat),iv=iT (i:Int)∧i≤N∧P'≤P+1+210*(N - i)∧kQ w.heap.size R a len cap P' w wr X Z q am nm cm av nv cv ak ns cs) (fun iv _=>(intOf iv).toNat)
 case atStart=>exact ⟨N,P+1,q,am,nm,cm,av,nv,cv,ak,ns,cs,rfl,Cy _,by omega,S3.o⟩
 case round =>
  clear S3;obtain ⟨i,P',q1,a8,ab,ah,ap,al,af,ad,aa,a5,rfl,hi,b4,hS⟩:=hrel;have S:CG (kQ w.heap.size R a len cap P' w wr X Z q1 a8 ab ah ap al af ad aa a5):=hS;have x0:=hS.bx.all;clear hS;by_cases b3:0<i
  · have aw:(i:Int) > 0:=by omega
    have b5:IntKind.i64.wrap ((i:Int) - 1)=(i:Int) - 1:=by rw [Dg];unfold wrap64;omega
    have aP:P'<80000:=by have:210*(N - i)≤210*24:=Nat.mul_le_mul_left _ (by omega);omega
    go_wp2_with fail
    clear x0;refine (xv R P' w.heap.size a len cap _ _ S.o.rd an.o aP ae S.o.low.size S.o.good).mono ?_;rintro e w4 hA;obtain ⟨q2,g,d,f,x,m,n,u,r,t,P2,rfl,aA,U,b7,a0⟩:=hA.parts;obtain ⟨ax,Y⟩:=S.o.acted a0 U aA;have S2:=bO Y;have x0:=ax.all;clear hA aA U a0 Y S ax;go_wp2;go_roundw
    case rel =>
     have e3:N - (i - 1)=N - i+1:=by omega
     exact ⟨i - 1,P2,q2,g,d,f,x,m,n,u,r,t,by rw [show ((i - 1:Nat):Int)=(i:Int) - 1 by omega],by omega,by rw [e3,Nat.mul_add];omega,S2.o⟩
    case measure=>simp [intOf];omega
  · have aw:¬(i:Int) > 0:=by omega
    have aQ:P'≤P+6000:=by have:210*(N - i)≤210*24:=Nat.mul_le_mul_left _ (by omega);omega
    go_wp2_with fail
    clear x0;refine (BU w.heap.size _ _ S.o.good).mono ?_;rintro e w5 ⟨q2,g,d,f,x,m,n,u,r,t,rfl,ag,ao,a6,a7⟩;have ac:CG (Ck wr.heap.size w5 (.agg #[iT q2,.slice g d f,.slice x m n,.slice u r t])):=a7;have I:CG (Z<wr.heap.size):=S.o.br.lt;have aO:CG (pl (.agg #[iT q2,.slice g d f,.slice x m n,.slice u r t])):=a6;have L:CG (kQ w.heap.size R a len cap P' w w5 X Z q1 a8 ab ah ap al af ad aa a5):=S.o.below ao;have aS:CG (cL wr.heap.size w5 (.agg #[iT q2,.slice g d f,.slice x m n,.slice u r t])):=ag;have a4:CG (w.heap.size≤wr.heap.size):=S.o.low.size;have r0:=L.o.br.all;clear a6 ag ao S a7;go_wp2;refine bodyPost_ret (v:=.agg #[iT q2,.slice g d f,.slice x m n,.slice u r t]) ?_ rfl ⟨_,P',rfl,?_,?_,aQ,?_,aO.o,?_⟩
    · have e:=(((L.o.br.set0 (iT q2)).set1 (.slice g d f)).set2 (.slice x m n)).set3 (.slice u r t);simp [results,Tryz.results74,go_sem,e.all]
    · obtain ⟨q',am',nm',cm',G,c,ak',ns',cs',gA,dA,e1,n1,d1,e2,n2,d2,M,A,B,C,T,e,hT,htb⟩:=aS.o.four (q:=q2) (a1:=g) (m1:=d) (k1:=f) (a2:=x) (m2:=m) (k2:=n) (a3:=u) (m3:=r) (k3:=t) L.o.kx.2 L.o.br;exact ⟨q',am',nm',cm',G,c,ak',ns',cs',gA,dA,e1,n1,d1,e2,n2,d2,M,A,B,C,T,e,hT.mono a4.o,htb⟩
    · have ht:=L.o.top;have J:Z≠R:=by omega
      have y:∀b O,a=some ⟨b,O,none⟩→0<len→b≠Z:=fun b O e hl=>by
       rcases ht.2.2.2.1 with h0 | h0
       · omega
       · have:=h0 b O e;omega
      exact (((L.o.rd.other J y _ _).other J y _ _).other J y _ _).other J y _ _
    · have ht:=L.o.top;exact xK (L.o.low.four ht.2.2.2.2.1 ht.2.2.2.2.1 _ _ _ _)
    · obtain ⟨q',am',nm',cm',av',nv',cv',ak',ns',cs',M,V,T,e,hT⟩:=ac.o;exact ⟨q',am',nm',cm',av',nv',cv',ak',ns',cs',M,V,T,e,(hT.same ((((gJ.of_set _ _ I.o).trans (gJ.of_set _ _ I.o)).trans (gJ.of_set _ _ I.o)).trans (gJ.of_set _ _ I.o))).lowR a4.o⟩
end Go.Proofs.YtpobkmjicbobdaaGreat
