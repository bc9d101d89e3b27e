/- Walks. -/
import Derived.Test.YtpobkmjicbobdaaGreatBW30
namespace Go.Proofs.YtpobkmjicbobdaaGreat
set_option maxRecDepth 100000
set_option maxHeartbeats 40000000
open Go.RowKit
variable {M:List ac} {P R X base c cap cm cs cv g i len lo lo' n nm ns nv:Nat} {S:List Int} {V:List (List af)} {a ak am av:Option Addr} {q:Int} {w w' wi wj:World}
def Gx (R:Nat) (a:Option Addr) (len cap P d:Nat) (w:World) (e:Ending) (w':World):Prop:=∃q am nm cm av nv cv ak ns cs P',e=.returned (.agg #[iT q,.slice am nm cm,.slice av nv cv,.slice ak ns cs])∧gM w.heap.size R w' (.agg #[iT q,.slice am nm cm,.slice av nv cv,.slice ak ns cs])∧bh w' R a len cap P'∧P'≤P+d∧w.grownBy w' (some R)∧sj (.agg #[iT q,.slice am nm cm,.slice av nv cv,.slice ak ns cs])
theorem gM.low {v:Value} (h:gM lo R w v) (hl:lo'≤lo):gM lo' R w v:=by
 rcases h with h | h
 · obtain ⟨q,am,nm,cm,G,c,ak,ns,cs,m,d,e1,o,s,e2,n2,f,M,A,B,C,S,e,r,b⟩:=h;exact .inl ⟨q,am,nm,cm,G,c,ak,ns,cs,m,d,e1,o,s,e2,n2,f,M,A,B,C,S,e,r.mono hl,b⟩
 · exact .inr h
theorem yF (R P:Nat) (a:Option Addr) (len cap:Nat) (w:World) (h:bh w R a len cap P) (u:ud a len R) (hP:P<60000) :
 Calls Tryz.prog 78 #[.pointer (pT R)] w (Gx R a len cap P 7000 w):=by
 obtain ⟨Z,Y⟩:=aG w.heap.size;obtain ⟨W,U⟩:=aG (w.alloc (.cells #[iT 0,nZ,nZ,nZ] 31));have kW:Bl w W:=by rw [U];exact bZ
 have br:ay W Z (iT 0) nZ nZ nZ∧aq W Z 31 4:=by rw [U,Y];exact ⟨ay.new _ _ _ _ _ _,cX w #[iT 0,nZ,nZ,nZ] 31⟩
 have K:=h.lt;have F:Eq (w.heap.size≤Z∧R<w.heap.size∧ud a len R):=⟨Nat.le_of_eq Y.symm,K,u⟩;have H:Eq (bh W R a len cap P):=h.below kW;have x:Eq (Bl w W):=kW;have E:Eq (ay W Z (iT 0) nZ nZ nZ∧aq W Z 31 4):=br;clear h u br kW K;go_enter Tryz.func78,Tryz.ntmps78
 go_wp2_with fail
 rw [← U,← Y];clear U Y;refine (yE R P a len cap W H.o F.o.2.2 hP).mono ?_;rintro e T ⟨v,P1,rfl,y,Q,a6,m,I,_⟩;obtain ⟨q,am,nm,cm,av,nv,cv,ak,ns,cs,rfl⟩:=y.val;have L:Eq (W.grownBy T (some R)):=m;have d:Z≠R:=by have:=F.o;omega
 have C:Eq (ay T Z (iT 0) nZ nZ nZ∧aq T Z 31 4):=⟨E.o.1.grownB m d,E.o.2.grown m d⟩;go_wp2_with fail
 refine (yG R P1 W.heap.size a len cap _ T Q F.o.2.2 (by omega) (by have:=x.o.size;have:=F.o;omega) m.size y).mono ?_;rintro e N ⟨v,P2,rfl,D,O,a8,s,J⟩;have A:=J I;clear J I;obtain ⟨q,am,nm,cm,av,nv,cv,ak,ns,cs,rfl⟩:=D.val;have A:Eq (sj (.agg #[iT q,.slice am nm cm,.slice av nv cv,.slice ak ns cs])):=A;have r:Eq (ay N Z (iT 0) nZ nZ nZ∧aq N Z 31 4):=⟨C.o.1.grownB s d,C.o.2.grown s d⟩;have a3:Eq (gM W.heap.size R N (.agg #[iT q,.slice am nm cm,.slice av nv cv,.slice ak ns cs])):=D;have HY:Eq (bh N R a len cap P2∧w.grownBy N (some R)):=⟨O,ae (aJ x.o) (ae L.o s)⟩;have a2:P2≤P+7000:=by omega
 have r0:=r.o.1.all;clear D O s y Q m C L E H;go_wp2;refine bodyPost_ret (v:=.agg #[iT q,.slice am nm cm,.slice av nv cv,.slice ak ns cs]) ?_ rfl ⟨q,am,nm,cm,av,nv,cv,ak,ns,cs,P2,rfl,(a3.o.four r.o.2 r.o.1).low x.o.size,?_,a2,?_,A.o⟩
 · have e:=(((r.o.1.set0 (iT q)).set1 (.slice am nm cm)).set2 (.slice av nv cv)).set3 (.slice ak ns cs);simp [results,Tryz.results78,go_sem,e.all]
 · have f:∀b B,a=some ⟨b,B,none⟩→0<len→b≠Z:=fun b B e hl=>by
    have:=F.o;rcases this.2.2 with h0 | h0
    · omega
    · have:=h0 b B e;omega
   exact (((HY.o.1.other d f _ _).other d f _ _).other d f _ _).other d f _ _
 · have t:w.heap.size≤Z:=F.o.1;exact aH (aH (aH (aH HY.o.2 t (dg _ _ _ _)) t (dg _ _ _ _)) t (dg _ _ _ _)) t (dg _ _ _ _)
def BQ (w:World) (q:Int) (am:Option Addr) (nm cm:Nat) (av:Option Addr) (nv cv:Nat) (ak:Option Addr) (ns cs:Nat) (M:List ac) (V:List (List af)) (S:List Int):Prop:=(Lit.int .i64 q).wf=true∧aZ 0 w am nm cm av nv cv ak ns cs M V S∧su w av V∧(∃g,ak=some ⟨g,0,none⟩)∧∃g,am=some ⟨g,0,none⟩
theorem su.keep (h:su w av V) (hb:Bl w w'):su w' av V:=fun i B hB=>by
 obtain ⟨b,e,n,c,h1,h2⟩:=h i B hB
 exact ⟨b,e,n,c,h1,cell_later hb h2⟩
theorem BQ.keep (h:BQ w q am nm cm av nv cv ak ns cs M V S) (hb:Bl w w'):BQ w' q am nm cm av nv cv ak ns cs M V S:=⟨h.1,h.2.1.keep hb,h.2.2.1.keep hb,h.2.2.2⟩
structure Ek (w wi:World) (R X:Nat) (a:Option Addr) (len cap P:Nat):Prop where
 rd:bh wi R a len cap P
 low:ud a len R
 bx:ay wi X (iT 0) nZ nZ nZ
 kx:aq wi X 31 4
 bl:Bl w wi
 top:w.heap.size≤X∧X<R
theorem Ek.below (h:Ek w wi R X a len cap P) (hb:Bl wi wj):Ek w wj R X a len cap P :=
 ⟨h.rd.below hb,h.low,h.bx.keep hb,h.kx.below hb,h.bl.trans (hb.mono h.bl.size),h.top⟩
theorem Ek.read {P':Nat} (h:Ek w wi R X a len cap P) (hg:wi.grownBy wj (some R)) (hr:bh wj R a len cap P'):Ek w wj R X a len cap P' :=
 have e:X≠R:=by have:=h.top;omega
 ⟨hr,h.low,h.bx.grownB hg e,h.kx.grown hg e,h.bl.grown hg h.bl.size (fun k e=>by cases e;have:=h.top;omega),h.top⟩
theorem xd {W:World} (r:Bl w W) (o:len=0∨∃b d,a=some ⟨b,d,none⟩∧b<w.heap.size∧∀i,i<len→∃z:Nat,z≤255∧w.cell? ⟨b,d+i,none⟩=some (.int .u8 z)):len=0∨∃b d,a=some ⟨b,d,none⟩∧b<W.heap.size∧∀i,i<len→∃z:Nat,z≤255∧W.cell? ⟨b,d+i,none⟩=some (.int .u8 z):=by
 rcases o with h0 | ⟨b,d,ha,f,e⟩
 · exact Or.inl h0
 · exact Or.inr ⟨b,d,ha,E' f r.size,fun i hi=>by obtain ⟨z,hz,m⟩:=e i hi;exact ⟨z,hz,cell_later r m⟩⟩
theorem Dj {d:World} (h:bh d R a len cap P) (hs:d.heap.size=R+1):ud a len R:=by
 rcases h.bytes with h0 | ⟨b,m,ha,h1,h2,_⟩
 · exact Or.inl h0
 · exact Or.inr (fun b' f e=>by rw [ha] at e;cases e;omega)
theorem gM.treX (h:gM lo R w (.agg #[iT q,.slice am nm cm,.slice av nv cv,.slice ak ns cs])) (hk:aq w X 31 4) (d:ay w X (iT 0) nZ nZ nZ) (hs:sj (.agg #[iT q,.slice am nm cm,.slice av nv cv,.slice ak ns cs])) (u0:Int) (a1 a2 a3:Option Addr) (m1 k1 m2 k2 m3 k3:Nat):∃M V S,BQ ((((w.setCell ⟨X,0,none⟩ (iT u0)).setCell ⟨X,1,none⟩ (.slice a1 m1 k1)).setCell ⟨X,2,none⟩ (.slice a2 m2 k2)).setCell ⟨X,3,none⟩ (.slice a3 m3 k3)) q am nm cm av nv cv ak ns cs M V S:=by
 obtain ⟨B,m,b,x,u,y,t,f,o,s,M,V,S,e,h1,h2,h3,_⟩:=(h.four hk d).treeIn;cases e;obtain ⟨_,r,_,_,_,_,_,A,_,_,e⟩:=hs;exact ⟨M,V,S,h1,h2,h3,⟨A,by simp at e;simp [e]⟩,⟨r,by simp at e;simp [e]⟩⟩
def GA (w:World) (e:Ending) (w':World):Prop:=∃q am nm cm av nv cv ak ns cs M V S,∃(g nb cb:Nat) (K:List ac),e=.returned (.tuple #[.agg #[iT q,.slice am nm cm,.slice av nv cv,.slice ak ns cs],sL g nb cb])∧BQ w' q am nm cm av nv cv ak ns cs M V S∧ah w' (pT g) nb cb K∧nb≤13∧nU K∧Bl w w'
theorem pC (a:Option Addr) (len cap:Nat) (w:World) (hb:lT w a len cap) :
 Calls Tryz.prog 30 #[.slice a len cap] w (GA w):=by
 obtain ⟨X,hX⟩:=aG w.heap.size;obtain ⟨W,hW⟩:=aG (w.alloc (.cells #[iT 0,nZ,nZ,nZ] 31));have kW:Bl w W:=by rw [hW];exact bZ
 have br:ay W X (iT 0) nZ nZ nZ∧aq W X 31 4:=by rw [hW,hX];exact ⟨ay.new _ _ _ _ _ _,cX w #[iT 0,nZ,nZ,nZ] 31⟩
 obtain ⟨a8,a2,a7⟩:=hb;have C:=xd kW a7;have HK:Eq (w.heap.size≤X∧X<W.heap.size∧Bl w W):=⟨Nat.le_of_eq hX.symm,br.1.lt,kW⟩;have HB:Eq (ay W X (iT 0) nZ nZ nZ∧aq W X 31 4):=br;clear br kW a7;go_enter Tryz.func30,Tryz.ntmps30
 go_wp2_with fail
 rw [← hW];try rw [← hX]
 clear hW hX;refine (yD a len cap _ a8 a2 C).mono ?_;rintro e B ⟨d,rfl,A,x,f⟩;obtain ⟨R,hR⟩:=aG W.heap.size;rw [← hR] at A f;rw [← hR];have Z:Eq (Ek w B R X a d cap 0):=⟨A,Dj A f,HB.o.1.keep x,HB.o.2.below x,HK.o.2.2.trans (x.mono HK.o.2.2.size),HK.o.1,by rw [hR];exact HK.o.2.1⟩;clear a8 a2 C A x f hR HK HB;go_wp2_with fail
 refine (yF R 0 a d cap B Z.o.rd Z.o.low (by omega)).mono ?_;rintro e I ⟨q,am,nm,cm,av,nv,cv,ak,ns,cs,P2,rfl,U,a5,aC,E,N⟩;have al:Eq (sj (.agg #[iT q,.slice am nm cm,.slice av nv cv,.slice ak ns cs])):=N;have S2:Eq (Ek w I R X a d cap P2):=Z.o.read E a5;have a4:Eq (gM B.heap.size R I (.agg #[iT q,.slice am nm cm,.slice av nv cv,.slice ak ns cs])):=U;have an:Eq (R<B.heap.size∧B.heap.size≤I.heap.size):=⟨Z.o.rd.lt,E.size⟩;clear Z U a5 E N;obtain ⟨Y,hY⟩:=aG I.heap.size;obtain ⟨w3,s⟩:=aG (I.alloc (.cells #[iT q,.slice am nm cm,.slice av nv cv,.slice ak ns cs] 31));have k3:Bl I w3:=by rw [s];exact bZ
 have BY:Eq (ay w3 Y (iT q) (.slice am nm cm) (.slice av nv cv) (.slice ak ns cs)):=by rw [s,hY];exact ay.new _ _ _ _ _ _
 have S3:Eq (Ek w w3 R X a d cap P2):=S2.o.below k3;have J:Eq (gM B.heap.size R w3 (.agg #[iT q,.slice am nm cm,.slice av nv cv,.slice ak ns cs])):=a4.o.below k3;have Q:Eq (X<Y∧R<Y∧R<w3.heap.size):=by have:=S2.o.rd.lt;have:=S2.o.top;have:=S3.o.rd.lt;exact ⟨by omega,by omega,this⟩
 clear S2 a4 k3;go_upto_region 3 with fail
 rw [← s];try rw [← hY]
 clear s hY;have t:Eq (∀w',ay w' Y (iT q) (.slice am nm cm) (.slice av nv cv) (.slice ak ns cs)→(fun w':World=>w'.cell? ⟨Y,0,none⟩=some (iT q)∧w'.cell? ⟨Y,1,none⟩=some (.slice am nm cm)∧w'.cell? ⟨Y,2,none⟩=some (.slice av nv cv)∧w'.cell? ⟨Y,3,none⟩=some (.slice ak ns cs)∧Y<w'.heap.size) w'):=fun w' b=>⟨b.c0,b.c1,b.c2,b.c3,b.lt⟩
 have kd:=(Below.refl w3.heap.size w3).drew;have H:Eq (Ek w w3.drew R X a d cap P2):=S3.o.below kd;have D:Eq (gM B.heap.size R w3.drew (.agg #[iT q,.slice am nm cm,.slice av nv cv,.slice ak ns cs])):=J.o.below kd;have u:Eq (ay w3.drew Y (iT q) (.slice am nm cm) (.slice av nv cv) (.slice ak ns cs)):=BY.o.keep kd;clear kd S3 J BY;refine eJ t u.o fun F=>?_
 generalize w3.drew=wd at F H D u ⊢;refine aR 0 2 F ?_;refine aV 2 fun K hK=>?_
 go_simp;refine (pn R P2 a d cap _ H.o.rd (by omega)).mono ?_;rintro e w5 ⟨g,nb,cb,P',L,rfl,hO,hF,hn,a0,az,y⟩;have ah:Y≠R:=by have:=Q.o;omega
 have m:Eq (Ek w w5 R X a d cap P'):=H.o.read y a0;have ao:Eq (gM B.heap.size R w5 (.agg #[iT q,.slice am nm cm,.slice av nv cv,.slice ak ns cs])):=D.o.read H.o.rd an.o.1 y;have O:Eq (ay w5 Y (iT q) (.slice am nm cm) (.slice av nv cv) (.slice ak ns cs)):=u.o.grownB y ah;have HO:Eq (ag w5 (R+1) g nb cb L):=hO.mono H.o.rd.lt;have HF:Eq (nU L):=hF;clear hO hF a0 y H D u;go_wp2_with fail
 refine hK.o _ _ (t.o _ O.o) (fun F=>?_);clear hK K;(try go_frame);have a1:Eq (∀u0 u1 u2 u3,ay ((((w5.setCell ⟨X,0,none⟩ u0).setCell ⟨X,1,none⟩ u1).setCell ⟨X,2,none⟩ u2).setCell ⟨X,3,none⟩ u3) Y (iT q) (.slice am nm cm) (.slice av nv cv) (.slice ak ns cs)):=fun u0 u1 u2 u3=>by
  have r:X≠Y:=by have:=Q.o;omega
  exact (((O.o.other r _).other r _).other r _).other r _
 refine aV 3 fun K hK=>?_
 have r0:=m.o.bx.all;go_simp;refine hK.o _ _ (t.o _ (a1.o _ _ _ _)) (fun F=>?_);clear hK K r0;(try go_frame);refine aR 4 1 F ?_;refine dN ?_;clear F t a1;go_wp2;obtain ⟨M,T,S,hT⟩:=ao.o.treX m.o.kx m.o.bx al.o q am av ak nm cm nv cv ns cs;refine bodyPost_ret (v:=.tuple #[.agg #[iT q,.slice am nm cm,.slice av nv cv,.slice ak ns cs],sL g nb cb]) ?_ rfl ⟨q,am,nm,cm,av,nv,cv,ak,ns,cs,M,T,S,g,nb,cb,L,rfl,hT,(HO.o.kp (R:=R) (Nat.lt_succ_self _) (jW.four m.o.kx _ _ _ _)).entsAt,hn,HF.o,((((m.o.bl.setCell (p:=⟨X,0,none⟩) m.o.top.1 _).setCell (p:=⟨X,1,none⟩) m.o.top.1 _).setCell (p:=⟨X,2,none⟩) m.o.top.1 _).setCell (p:=⟨X,3,none⟩) m.o.top.1 _)⟩;have e:=(((m.o.bx.set0 (iT q)).set1 (.slice am nm cm)).set2 (.slice av nv cv)).set3 (.slice ak ns cs);simp [results,Tryz.results30,go_sem,e.all]
theorem AC {hi hi':Nat} {d b:Nat→Nat} {es:Nat→Nat→Nat} (h:o4 lo hi w am nm av nv ak ns M V S d b es) (e:X<lo) (hl:lo'≤lo) (hh:hi≤hi') (u0 u1 u2 u3:Value):o4 lo' hi' ((((w.setCell ⟨X,0,none⟩ u0).setCell ⟨X,1,none⟩ u1).setCell ⟨X,2,none⟩ u2).setCell ⟨X,3,none⟩ u3) am nm av nv ak ns M V S d b es:=by
 rcases h with ⟨b1,b2,b3,h1,h2,h3,h4⟩ | h
 · exact .inl ⟨b1,b2,b3,h1,h2,h3,mg h4 e hl hh _ _ _ _⟩
 · exact .inr h
theorem pZ (O:Nat)  (B:Int) (am:Option Addr) (nm cm b m cv:Nat) (ak:Option Addr) (x A:Nat) (a0:Option Addr) (n0 c0:Nat) (a1:Option Addr) (n1 c1:Nat) (a2:Option Addr) (n2 c2:Nat) (q2:Int) (C:List ac) (H D E:List af) (F:List Int) (w:World) (J:∀w',Bl w w'→Calls Tryz.prog 86 #[.agg #[iT B,.slice am nm cm,sO b m 3 cv,.slice ak x A]] w' fun e au=>e=.returned (.tuple #[.agg #[iT B,.slice am nm cm,.slice a0 n0 c0,.slice a1 n1 c1,.slice a2 n2 c2,.slice ak x A],.bool true])∧Bl w' au) (hC:∀w',Bl w w'→Calls Tryz.prog 96 #[.agg #[iT B,.slice am nm cm,.slice a0 n0 c0,.slice a1 n1 c1,.slice a2 n2 c2,.slice ak x A],.pointer (pT O)] w' (Gh q2 C H D E F w')) (ho:xC C H D E F) :
 Calls Tryz.prog 61 #[.agg #[iT B,.slice am nm cm,sO b m 3 cv,.slice ak x A],.func (.func 96) #[] #[.pointer (pT O)]] w (pF q2 C [H,D,E] F true w):=by
 have ar:=az J;obtain ⟨X,hX⟩:=aG w.heap.size;obtain ⟨W,hW⟩:=aG ((w.alloc (.cells #[iT B,.slice am nm cm,sO b m 3 cv,.slice ak x A] 31)).alloc (.cells #[iT 0,nZ,nZ,nZ] 31));have kW:Bl w W:=by rw [hW];exact bZ.alloc (by simp) _
 have br:ay W (X+1) (iT 0) nZ nZ nZ:=by
  have:=ay.new (w.alloc (.cells #[iT B,.slice am nm cm,sO b m 3 cv,.slice ak x A] 31)) 31 (iT 0) nZ nZ nZ;rw [GY] at this;rw [hW,hX];exact this
 have HX:Eq (X=w.heap.size):=hX;have K0:Eq (Bl w W):=kW;have aD:Eq (ay W (X+1) (iT 0) nZ nZ nZ):=br;have aq:=az hC;have HO:=az ho;clear kW br J hC ho;go_enter Tryz.func61,Tryz.ntmps61
 go_wp2_with fail
 rw [← hX,← hW];clear hX hW;refine (ar.o _ K0.o).mono ?_;rintro e w1 ⟨rfl,r⟩;obtain ⟨w2,u⟩:=aG (w1.alloc (.cells #[iT B,.slice am nm cm,.slice a0 n0 c0,.slice a1 n1 c1,.slice a2 n2 c2,.slice ak x A] 82));have k2:Bl w1 w2:=by rw [u];exact bZ
 have K2:Eq (Bl w w2):=(K0.o.trans (r.mono K0.o.size)).trans (k2.mono (GU K0.o.size r.size));have aA:Eq (ay w2 (X+1) (iT 0) nZ nZ nZ):=(aD.o.keep r).keep k2;clear r k2;go_wp2_with fail
 rw [← u];refine (aq.o _ K2.o).mono ?_;rintro e w3 ⟨a3,f,K,a7,aa,Z,U,a9,I,a22,a6,Y,N,d,Q,rfl,a8,s⟩;obtain ⟨w4,t⟩:=aG (w3.alloc (.cells #[iT q2,.slice a3 f K,.slice a7 aa Z,.slice U a9 I,.slice a22 a6 Y,.slice N d Q] 82));have k4:Bl w3 w4:=by rw [t];exact bZ
 have K4:Eq (Bl w w4):=(K2.o.trans (s.mono K2.o.size)).trans (k4.mono (GU K2.o.size s.size));have T:Eq (ay w4 (X+1) (iT 0) nZ nZ nZ):=(aA.o.keep s).keep k4;have al:Eq (pD w4 a3 f K a7 aa Z U a9 I a22 a6 Y N d Q C H D E F):=a8.keep k4;clear s k4 a8 u;go_wp2_with fail
 rw [← t];clear t;refine (xr q2 _ _ _ _ _ _ _ _ _ _ _ _ _ _ _ C H D E F _ al.o HO.o).mono ?_;rintro e w5 ⟨eb,vb,sb,gs,bs,es,rfl,_,L,y⟩;have K5:Eq (Bl w w5):=K4.o.trans (y.mono K4.o.size);have ax:Eq (fq w4.heap.size w5.heap.size w5 eb f vb 3 sb d C [H,D,E] F gs bs es):=L;have r5:=(T.o.keep y);have aB:Eq (ay w5 (X+1) (iT 0) nZ nZ nZ):=r5;have an:Eq (X+1<w4.heap.size):=T.o.lt;have d0:=r5.all;clear L y r5;go_wp2;refine bodyPost_ret (v:=.tuple #[.agg #[iT q2,sL eb f f,sL vb 3 3,sL sb d d],.bool true]) ?_ rfl ⟨some ⟨eb,0,none⟩,f,some ⟨vb,0,none⟩,3,some ⟨sb,0,none⟩,d,gs,bs,es,rfl,.inl ⟨eb,vb,sb,rfl,rfl,rfl,?_⟩,?_⟩
 · have e:=(((aB.o.set0 (iT q2)).set1 (sL eb f f)).set2 (sL vb 3 3)).set3 (sL sb d d);simp [results,Tryz.results61,go_sem,e.all]
 · exact mg ax.o an.o K4.o.size (by simp [World.setCell]) _ _ _ _
 · have hx:w.heap.size≤X+1:=by have:=HX.o;omega
   exact jY K5.o hx _ _ _ _
theorem p6 (U:Nat)  (r:Int) (am:Option Addr) (nm cm b E cv:Nat) (ak:Option Addr) (d t:Nat) (a0:Option Addr) (I c0:Nat) (a1:Option Addr) (K c1:Nat) (a2:Option Addr) (n2 c2:Nat) (M:List ac) (A B C:List af) (S:List Int) (w:World) (ab:pD w am nm cm a0 I c0 a1 K c1 a2 n2 c2 ak d t M A B C S) (N:∀w',Bl w w'→Calls Tryz.prog 86 #[.agg #[iT r,.slice am nm cm,sO b E 3 cv,.slice ak d t]] w' fun e aI=>e=.returned (.tuple #[.agg #[iT r,.slice am nm cm,.slice a0 I c0,.slice a1 K c1,.slice a2 n2 c2,.slice ak d t],.bool true])∧Bl w' aI) (hC:∀w',Bl w w'→Calls Tryz.prog 96 #[.agg #[iT r,.slice am nm cm,.slice a0 I c0,.slice a1 K c1,.slice a2 n2 c2,.slice ak d t],.pointer (pT U)] w' (FS w')) (ho:xC M A B C S) :
 Calls Tryz.prog 61 #[.agg #[iT r,.slice am nm cm,sO b E 3 cv,.slice ak d t],.func (.func 96) #[] #[.pointer (pT U)]] w (pF r M [A,B,C] S false w):=by
 have aH:=az N;obtain ⟨X,hX⟩:=aG w.heap.size;obtain ⟨W,hW⟩:=aG ((w.alloc (.cells #[iT r,.slice am nm cm,sO b E 3 cv,.slice ak d t] 31)).alloc (.cells #[iT 0,nZ,nZ,nZ] 31));have kW:Bl w W:=by rw [hW];exact bZ.alloc (by simp) _
 have br:ay W (X+1) (iT 0) nZ nZ nZ:=by
  have:=ay.new (w.alloc (.cells #[iT r,.slice am nm cm,sO b E 3 cv,.slice ak d t] 31)) 31 (iT 0) nZ nZ nZ;rw [GY] at this;rw [hW,hX];exact this
 have HX:Eq (X=w.heap.size):=hX;have K0:Eq (Bl w W):=kW;have aQ:Eq (ay W (X+1) (iT 0) nZ nZ nZ):=br;have aF:=az hC;have HO:=az ho;have aJ:=az ab;clear kW br N hC ho ab;go_enter Tryz.func61,Tryz.ntmps61
 go_wp2_with fail
 rw [← hX,← hW];clear hX hW;refine (aH.o _ K0.o).mono ?_;rintro e w1 ⟨rfl,F⟩;obtain ⟨P1,H⟩:=aG w1.heap.size;obtain ⟨w2,y⟩:=aG (w1.alloc (.cells #[iT r,.slice am nm cm,.slice a0 I c0,.slice a1 K c1,.slice a2 n2 c2,.slice ak d t] 82));have k2:Bl w1 w2:=by rw [y];exact bZ
 have K2:Eq (Bl w w2):=(K0.o.trans (F.mono K0.o.size)).trans (k2.mono (GU K0.o.size F.size));have ae:Eq (ay w2 (X+1) (iT 0) nZ nZ nZ):=(aQ.o.keep F).keep k2;have aM:Eq (cu w2 P1 (iT r) (.slice am nm cm) (.slice a0 I c0) (.slice a1 K c1) (.slice a2 n2 c2) (.slice ak d t)):=by rw [y,H];exact cu.new _ _ _ _ _ _ _ _
 clear F k2;go_wp2_with fail
 rw [← y];try rw [← H]
 clear H y;refine (aF.o _ K2.o).mono ?_;rintro e w3 ⟨q2,a9,ag,O,aj,ao,a8,a3,an,L,a22,ai,a4,T,aa,Y,rfl,u⟩;have a5:Eq (cu w3 P1 (iT r) (.slice am nm cm) (.slice a0 I c0) (.slice a1 K c1) (.slice a2 n2 c2) (.slice ak d t)):=aM.o.keep u;obtain ⟨P2,s⟩:=aG w3.heap.size;obtain ⟨wn,D⟩:=aG (w3.alloc (.cells #[iT q2,.slice a9 ag O,.slice aj ao a8,.slice a3 an L,.slice a22 ai a4,.slice T aa Y] 82));have kn:Bl w3 wn:=by rw [D];exact bZ
 have K3:Eq (Bl w w3):=K2.o.trans (u.mono K2.o.size);have Kn:Eq (Bl w wn):=K3.o.trans (kn.mono K3.o.size);have a6:=a5.o.keep kn;have al:cu wn P2 (iT q2) (.slice a9 ag O) (.slice aj ao a8) (.slice a3 an L) (.slice a22 ai a4) (.slice T aa Y):=by rw [D,s];exact cu.new _ _ _ _ _ _ _ _
 have m:w.heap.size≤P2:=by rw [s];exact K3.o.size
 have rn:=(ae.o.keep u).keep kn;have f:X+1≠P2:=by rw [s];have:=(ae.o.keep u).lt;omega
 obtain ⟨w4,x⟩:=aG ((((((wn.setCell ⟨P2,0,none⟩ (iT r)).setCell ⟨P2,1,none⟩ (.slice am nm cm)).setCell ⟨P2,2,none⟩ (.slice a0 I c0)).setCell ⟨P2,3,none⟩ (.slice a1 K c1)).setCell ⟨P2,4,none⟩ (.slice a2 n2 c2)).setCell ⟨P2,5,none⟩ (.slice ak d t));have K4:Eq (Bl w w4):=by
  rw [x];exact ((jY Kn.o m _ _ _ _).setCell (p:=⟨P2,4,none⟩) m _).setCell (p:=⟨P2,5,none⟩) m _
 have Z:Eq (ay w4 (X+1) (iT 0) nZ nZ nZ):=by
  rw [x];exact (((((rn.other (b':=P2) (o:=0) f.symm _).other (b':=P2) (o:=1) f.symm _).other (b':=P2) (o:=2) f.symm _).other (b':=P2) (o:=3) f.symm _).other (b':=P2) (o:=4) f.symm _).other (b':=P2) (o:=5) f.symm _
 have x0:=a6.all;have y0:=al.all;have aX:P1≠P2:=by rw [s];have:=a5.o.lt;omega
 clear u kn rn a6 al f m;go_upto_region 6 with fail
 rw [← D];try rw [← s]
 clear D s;go_wp2_with fail
 rw [← x];clear x x0 y0;refine (xr r _ _ _ _ _ _ _ _ _ _ _ _ _ _ _ M A B C S _ (aJ.o.keep K4.o) HO.o).mono ?_;rintro e w5 ⟨eb,vb,sb,gs,bs,es,rfl,_,Q,J⟩;have K5:Eq (Bl w w5):=K4.o.trans (J.mono K4.o.size);have aL:Eq (fq w4.heap.size w5.heap.size w5 eb nm vb 3 sb d M [A,B,C] S gs bs es):=Q;have r5:=(Z.o.keep J);have aO:Eq (ay w5 (X+1) (iT 0) nZ nZ nZ):=r5;have aE:Eq (X+1<w4.heap.size):=Z.o.lt;have d0:=r5.all;clear Q J r5;go_wp2;refine bodyPost_ret (v:=.tuple #[.agg #[iT r,sL eb nm nm,sL vb 3 3,sL sb d d],.bool false]) ?_ rfl ⟨some ⟨eb,0,none⟩,nm,some ⟨vb,0,none⟩,3,some ⟨sb,0,none⟩,d,gs,bs,es,rfl,.inl ⟨eb,vb,sb,rfl,rfl,rfl,?_⟩,?_⟩
 · have e:=(((aO.o.set0 (iT r)).set1 (sL eb nm nm)).set2 (sL vb 3 3)).set3 (sL sb d d);simp [results,Tryz.results61,go_sem,e.all]
 · exact mg aL.o aE.o K4.o.size (by simp [World.setCell]) _ _ _ _
 · have hx:w.heap.size≤X+1:=by have:=HX.o;omega
   exact jY K5.o hx _ _ _ _
theorem AY (a:Option Addr) (n c:Nat) (K:List ac) (q:Int) (w:World) (hK:ah w a n c K) (hn:n≤1048576) (aU:0≤q) (aQ:q≤100000) :
 Calls Tryz.prog 157 #[.slice a n c,iT q] w fun e w'=>mG q K n w e w':=by
 have HK:=az hK;have r:Eq (K.length=n):=hK.length;clear hK;obtain ⟨i0,hi,au,ax,aj⟩:=info_parts Tryz.infoEnt;go_enter Tryz.func157,Tryz.ntmps157
 go_wp2;go_loopw [6,11] (fun vv iv wr=>∃i:Nat,i≤n∧iv=iT i∧wr.ownsRow w.heap.size 50 5 vv i (aF (dh q (K.take i)))∧(∀l ∈ dh q (K.take i),d9 l)∧(∀j,j<i→lV q K j=true)∧Bl w wr) (fun _ iv _=>n - (intOf iv).toNat)
 case atStart=>exact ⟨0,GQ _,rfl,by simpa [dh,aF] using World.ownsRow_nil _ _ _ _,(by simp [dh]),(fun j hj=>absurd hj (H7 _)),Below.refl _ _⟩
 case round =>
  obtain ⟨i,aW,rfl,hv,hw,a4,hb⟩:=hrel;have HV:Eq (wr.ownsRow w.heap.size 50 5 _ i (aF (dh q (K.take i)))):=hv;have HW:Eq (∀l ∈ dh q (K.take i),d9 l):=hw;have Z:Eq (∀j,j<i→lV q K j=true):=a4;have Y:Eq (Bl w wr):=hb;have aN:=hb.size;clear hv hw a4;by_cases J:i<n
  · have a7:(i:Int)<(n:Int):=by omega
    obtain ⟨b,aY,rfl,a2⟩:=HK.o.form (by omega);obtain ⟨s,W,d,t,m,hg,a3,g0,g1,g2,g3,g4⟩:=HK.o.ent hb a2 i J;have HG:Eq (K[i]?=some (s,W,d,t,m)):=hg;have U:Eq (d9 (s,W,d,t,m)):=a3;have aV:b<wr.heap.size:=E' a2 hb.size;clear hg a3 hb;by_cases h0:W=0
    · subst h0;have e1:IntKind.i64.wrap (q+1)=q+1:=by rw [G4];unfold wrap64;omega
      have e2:IntKind.i64.wrap (q+1+(i:Int))=q+1+(i:Int):=by rw [G4];unfold wrap64;omega
      obtain ⟨Q,hQ⟩:∃Q:Int,Q=q+1+(i:Int):=⟨_,rfl⟩;have HQ:Eq (Q=q+1+(i:Int)):=hQ;obtain ⟨wq,D⟩:=aG (wr.alloc (.cells #[.string s,iT (q+1+(i:Int)),iT d,.string t,iT m] 50));obtain ⟨x,L⟩:=aG wr.heap.size;have kq:Bl wr wq:=by rw [D];exact bZ
      have b5:wq.cell? ⟨x,0,none⟩=some (.string s)∧wq.cell? ⟨x,1,none⟩=some (iT Q)∧wq.cell? ⟨x,2,none⟩=some (iT d)∧wq.cell? ⟨x,3,none⟩=some (.string t)∧wq.cell? ⟨x,4,none⟩=some (iT m)∧x<wq.heap.size:=by
       rw [D,L,hQ];refine ⟨?_,?_,?_,?_,?_,?_⟩ <;> simp
      have B5:Eq (wq.cell? ⟨x,0,none⟩=some (.string s)∧wq.cell? ⟨x,1,none⟩=some (iT Q)∧wq.cell? ⟨x,2,none⟩=some (iT d)∧wq.cell? ⟨x,3,none⟩=some (.string t)∧wq.cell? ⟨x,4,none⟩=some (iT m)∧x<wq.heap.size):=b5;obtain ⟨O,hO⟩:=aG (dM s Q d t m);have CE:Eq (Calls Tryz.prog 33 #[.agg #[.string s,iT Q,iT d,.string t,iT m]] wq fun e w'=>e=.returned (.bool O)∧Bl wq w'):=by rw [hO];exact uE s t Q d m wq U.o.1
      have a9:Eq (lV q K i=O):=by
       show lV q K i=O
       rw [Ff HG.o rfl,hO,hQ]
      have a6:Eq (Bl w wq):=Y.o.trans (kq.mono Y.o.size);have an:Eq (wq.ownsRow w.heap.size 50 5 _ i (aF (dh q (K.take i)))):=bD HV.o kq;have aB:Eq (d9 (s,Q,d,t,m)):=⟨U.o.1,(by rw [hQ];exact Hu (by omega):(Lit.int .i64 Q).wf=true),U.o.2.2⟩;clear kq b5 hO;go_upto_region 8 with fail
      rw [← D];try rw [← L]
      try rw [← hQ]
      clear D L hQ;obtain ⟨y0,y1,y2,y3,y4,yz⟩:=B5.o;go_wp2_with fail
      clear y0 y1 y2 y3 y4 yz g0 g1 g2 g3 g4;refine CE.o.mono ?_;rintro e A ⟨rfl,f⟩;have B:Eq (Bl w A):=a6.o.trans (f.mono a6.o.size);have ar:Eq (A.ownsRow w.heap.size 50 5 _ i (aF (dh q (K.take i)))):=bD an.o f;obtain ⟨y0,y1,y2,y3,y4,yz⟩:=B5.o;have y0:=cell_later f y0;have y1:=cell_later f y1;have y2:=cell_later f y2;have y3:=cell_later f y3;have y4:=cell_later f y4;have yz:=E' yz f.size;have aD:=B.o.size;clear f;cases O with
      | false =>
       have T:Eq (dx q K=false):=mN (i:=i) (by rw [r.o];exact J) a9.o;go_wp2;exact bodyPost_ret (v:=.tuple #[nZ,.bool false]) (by simp [results,Tryz.results157,go_sem]) rfl (show mG q K _ w _ _ from ⟨_,_,rfl,(fun h=>by rw [T.o] at h;cases h),fun _=>⟨rfl,rfl⟩,B.o⟩)
      | true =>
       have a1:∀j u,[Value.string s,iT Q,iT d,.string t,iT m][j]?=some u→(A.alloc (.cells #[.string s,iT Q,iT d,.string t,iT m] 50)).cell? ((⟨A.heap.size,0,none⟩:Addr).add j)=some u:=l9 A s Q d t m;have aw:=az a1;have ka:Bl A (A.alloc (.cells #[.string s,iT Q,iT d,.string t,iT m] 50)):=bZ;have a8:Eq ((A.alloc (.cells #[.string s,iT Q,iT d,.string t,iT m] 50)).ownsRow w.heap.size 50 5 _ i (aF (dh q (K.take i)))):=bD ar.o ka;have H:Eq (Bl w (A.alloc (.cells #[.string s,iT Q,iT d,.string t,iT m] 50))):=B.o.trans (ka.mono B.o.size);clear a1 ka;go_wp2_with (at_builtin;refine wpList_append_own _ rfl _ _ 28 rfl w.heap.size 50 i0 _ 5 56 Tryz.underlying28 hi au ax aj rfl (by decide) _ _ _ rfl a8.o ⟨A.heap.size,0,none⟩ 1 1 [.string s,iT Q,iT d,.string t,iT m] rfl rfl aw.o (by intro u hu;simp at hu;rcases hu with rfl | rfl | rfl | rfl | rfl <;> rfl) (by unfold maxLen;omega) (by omega) H.o.size ?_;intro v2 w2 I C ap)
       go_roundw
       case rel =>
        have e3:dh q (K.take (i+1))=dh q (K.take i)++[(s,Q,d,t,m)]:=by
         rw [qg HG.o,HQ.o];rfl
        refine ⟨i+1,by omega,by go_num,?_,?_,?_,?_⟩
        · rw [e3,bC];exact I
        · rw [e3];intro l hl;rcases GX.1 hl with h | h
          · exact HW.o l h
          · rw [G5] at h;subst h;exact aB.o
        · intro j hj;by_cases ai:j<i
          · exact Z.o j ai
          · rw [show j=i by omega];exact a9.o
        · exact H.o.grown C H.o.size (fun k e=>(a8.o.lt k e).1)
       case measure=>simp [intOf];omega
    · have T:Eq (dx q K=false):=mN (i:=i) (by rw [r.o];exact J) (Cj HG.o h0);have aZ:(W == 0)=false:=by simpa using h0
      have aR:decide (W=0)=false:=decide_eq_false h0;have al:Eq (Bl w (wr.alloc (.cells #[.string s,iT W,iT d,.string t,iT m] 50))):=Y.o.alloc Y.o.size _;go_wp2;exact bodyPost_ret (v:=.tuple #[nZ,.bool false]) (by simp [results,Tryz.results157,go_sem]) rfl (show mG q K _ w _ _ from ⟨_,_,rfl,(fun h=>by rw [T.o] at h;cases h),fun _=>⟨rfl,rfl⟩,al.o⟩)
  · have a7:¬(i:Int)<(n:Int):=by omega
    obtain rfl:i=n:=by omega
    have F:Eq (dx q K=true):=s5 r.o Z.o;have y:=HV.o;rw [GV (by rw [r.o];omega)] at y;have N:=HW.o;rw [GV (by rw [r.o];omega)] at N;have hsl:(dh q K).length=i:=by rw [fk,r.o]
    obtain ⟨a5,c5,ay,a0⟩:=Da y hsl N;subst ay;have E:Eq (cE wr w.heap.size a5 i c5 (dh q K)):=a0;clear y N hsl a0;by_cases h1:0<i
    · have aA:(i:Int) > 0:=by omega
      have aq:(0:Int)<(i:Int):=by omega
      go_wp2;exact bodyPost_ret (v:=.tuple #[.slice a5 i c5,.bool true]) (by simp [results,Tryz.results157,go_sem]) rfl (show mG q K _ w _ _ from ⟨_,_,rfl,(fun _=>⟨⟨a5,c5,rfl,E.o⟩,by simp [h1]⟩),(fun h=>by rw [F.o] at h;cases h),Y.o⟩)
    · have aA:¬(i:Int) > 0:=by omega
      have aq:¬(0:Int)<(i:Int):=by omega
      go_wp2;exact bodyPost_ret (v:=.tuple #[.slice a5 i c5,.bool false]) (by simp [results,Tryz.results157,go_sem]) rfl (show mG q K _ w _ _ from ⟨_,_,rfl,(fun _=>⟨⟨a5,c5,rfl,E.o⟩,by simp [h1]⟩),(fun h=>by rw [F.o] at h;cases h),Y.o⟩)
abbrev df:=Nat × Nat × Nat × Nat × Nat
def kf (x:df):List Value:=[.slice (some ⟨x.1,x.2.1,none⟩) x.2.2.1 x.2.2.2.1,iT x.2.2.2.2]
def fC (X:List df):List Value:=X.flatMap kf
theorem iC (x:df) (X:List df):fC (x :: X)=.slice (some ⟨x.1,x.2.1,none⟩) x.2.2.1 x.2.2.2.1 :: iT x.2.2.2.2 :: fC X:=rfl
theorem uH (A B:List df):fC (A++B)=fC A++fC B:=by simp [fC]
theorem Bm (X:List df):(fC X).length=X.length*2:=by
 induction X with
 | nil=>rfl
 | cons x r b=>rw [iC,Hn,Hn,b,Hn];omega
theorem tS:∀(X:List df) (j:Nat) (x:df),X[j]?=some x→(fC X)[j*2]?=some (.slice (some ⟨x.1,x.2.1,none⟩) x.2.2.1 x.2.2.2.1)∧(fC X)[j*2+1]?=some (iT x.2.2.2.2)
 | [],j,x,h=>by simp at h
 | y :: X,0,x,h=>by simp at h;subst h;exact ⟨rfl,rfl⟩
 | y :: X,j+1,x,h=>by
  have:=tS X j x (by simpa using h)
  rw [iC,show (j+1)*2=j*2+1+1 by omega]
  exact ⟨by rw [Ig,Ig];exact this.1,by rw [Ig,Ig];exact this.2⟩
theorem tR:∀(X:List df) (j:Nat) (x:df),((fC X).set (j*2) (.slice (some ⟨x.1,x.2.1,none⟩) x.2.2.1 x.2.2.2.1)).set (j*2+1) (iT x.2.2.2.2)=fC (X.set j x)
 | [],j,x=>rfl
 | y :: X,0,x=>rfl
 | y :: X,j+1,x=>by
  have:=tR X j x
  rw [iC,show (j+1)*2=j*2+1+1 by omega,IC,IC,IC,IC,this]
  rfl
structure ib (w:World) (base g n c:Nat) (X:List df):Prop where
 owns:w.ownsRow base 164 2 (sL g n c) n (fC X)
 len:X.length=n
theorem ib.lt {X:List df} (h:ib w base g n c X):base≤g∧g<w.heap.size:=h.owns.lt g rfl
theorem ib.grown {X:List df} {row:Option Nat} (h:ib w base g n c X) (hg:w.grownBy w' row) (b:some g≠row):ib w' base g n c X:=⟨h.owns.kept hg (.inr b),h.len⟩
theorem ib.below {X:List df} (h:ib w base g n c X) (hb:Bl w w'):ib w' base g n c X :=
 h.grown (row:=none) ⟨hb.os,hb.tape,hb.output,hb.size,fun k hk _=>hb.block k hk⟩ (by simp)
theorem ib.at2 {X:List df} {x:df} (h:ib w base g n c X) (hx:X[i]?=some x):w.cell? ⟨g,i*2,none⟩=some (.slice (some ⟨x.1,x.2.1,none⟩) x.2.2.1 x.2.2.2.1)∧w.cell? ⟨g,i*2+1,none⟩=some (iT x.2.2.2.2):=by
 have hc:=h.owns.cells (g:=g) rfl;obtain ⟨h0,h1⟩:=tS X i x hx;have a0:=hc _ _ h0;have a1:=hc _ _ h1;rw [G6] at a0 a1;simp only [GT] at a0 a1;exact ⟨a0,a1⟩
theorem ib.cells {X:List df} (h:ib w base g n c X):∃d,w.heap[g]?=some (.cells d 164 (0,0)):=by
 rcases h.owns.2 with ⟨hv,_⟩ | ⟨e,cap,b,hv,_,hg,_⟩
 · cases hv
 · cases hv;exact ⟨_,hg⟩
def setH (w:World) (g i:Nat) (x:df):World:=(w.setCell ⟨g,i*2,none⟩ (.slice (some ⟨x.1,x.2.1,none⟩) x.2.2.1 x.2.2.2.1)).setCell ⟨g,i*2+1,none⟩ (iT x.2.2.2.2)
theorem ib.setH {X:List df} {x:df} (h:ib w base g n c X):ib (setH w g i x) base g n c (X.set i x):=by
 have t0:=h.owns.stored (i*2) (.slice (some ⟨x.1,x.2.1,none⟩) x.2.2.1 x.2.2.2.1);have b:=t0.1.stored (i*2+1) (iT x.2.2.2.2);refine ⟨?_,by simp [h.len]⟩;have h1:=b.1;rw [tR] at h1;exact h1
theorem fO (w:World) (g o:Nat) (v:Value):w.grownBy (w.setCell ⟨g,o,none⟩ v) (some g) :=
 ⟨rfl,rfl,rfl,by simp [World.setCell],fun k _ hk=>Below.heap_setCell _ _ _ _ (fun e=>hk (by rw [e]))⟩
theorem rg (w:World) (g i:Nat) (x:df):w.grownBy (Go.Proofs.YtpobkmjicbobdaaGreat.setH w g i x) (some g):=(fO _ _ _ _).trans (fO _ _ _ _)
section
attribute [local go_sem] Ic
theorem re (a:Option Addr) (n c:Nat) (w:World):Calls Tryz.prog 306 #[.slice a n c] w fun e w'=>e=.returned (iT n)∧w'=w:=by
 go_enter Tryz.func306,Tryz.ntmps306
 go_wp2;go_ret;exact ⟨rfl,rfl⟩
theorem jk (base g n c i j:Nat) (X:List df) (x y:df) (w:World) (hO:ib w base g n c X) (hx:X[i]?=some x) (hy:X[j]?=some y) :
 Calls Tryz.prog 308 #[sL g n c,iT i,iT j] w fun e w'=>e=.returned (.tuple #[])∧ib w' base g n c ((X.set i y).set j x)∧w.grownBy w' (some g):=by
 obtain ⟨I,L,F,H,J⟩:=x;obtain ⟨B,A,t,u,E⟩:=y;have W:=az hx;have HY:=az hy;have N:=az hO.len;have HI:Eq (i<n):=by have:=(F'.1 hx).1;have:=hO.len;show i<n;omega
 have Y:Eq (j<n):=by have:=(F'.1 hy).1;have:=hO.len;show j<n;omega
 have pi:(i:Int)<(n:Int):=by have:=HI.o;omega
 have pj:(j:Int)<(n:Int):=by have:=Y.o;omega
 have f:=hO.below (Below.refl _ w).drew;have Z:w.grownBy w.drew (some g):=⟨rfl,rfl,rfl,GL _,fun _ _ _=>rfl⟩;go_enter Tryz.func308,Tryz.ntmps308
 go_wp2_with fail
 refine wp_region_held_drew (S:=(fun w'=>g<w'.heap.size)) (by kernel_rfl) (by exact f.lt.2) (fun m=>?_);generalize w.drew=U at f Z m ⊢;refine aR 0 7 m ?_;refine aR 8 3 m ?_;refine mK 7 11 (fun K hK=>?_) fun K hK=>?_
 focus
  obtain ⟨b,d⟩:=f.at2 HY.o
  simp only at b d
  have r:=f.lt.2
  go_simp
  refine hK.o _ _ (by exact f.lt.2) fun m=>?_
  refine aV 11 fun K hK=>?_
  obtain ⟨b,d⟩:=f.at2 W.o
 rotate_left
 focus
  obtain ⟨b,d⟩:=f.at2 W.o
  simp only at b d
  have r:=f.lt.2
  go_simp
  refine hK.o _ _ (by exact f.lt.2) fun m=>?_
  refine aV 7 fun K hK=>?_
  obtain ⟨b,d⟩:=f.at2 HY.o
 all_goals
  simp only at b d
  have r:=f.lt.2
  go_simp
  refine hK.o _ _ (by exact f.lt.2) fun m=>?_
  refine aR 12 1 m ?_
  refine aV 13 fun K hK=>?_
  obtain ⟨b,d⟩:=f.at2 W.o
  simp only at b d
  have r:=f.lt.2
  have C:=f.owns.frozenAt
  have f0:=C (i*2)
  have f1:=C (i*2+1)
  go_simp
  have k1:=f.setH (i:=i) (x:=(B,A,t,u,E))
  refine hK.o _ (setH U g i (B,A,t,u,E)) (by exact k1.lt.2) (fun m=>?_)
  have D:=rg U g i (B,A,t,u,E)
  generalize setH U g i (B,A,t,u,E)=s at k1 D m ⊢
  refine aR 14 1 m ?_
  refine aV 15 fun K hK=>?_
  obtain ⟨⟨zb,zo,zn,zc,zk⟩,HZ⟩:∃z,(X.set i (B,A,t,u,E))[j]?=some z:=⟨_,j' (by rw [Jg,N.o];exact Y.o)⟩
  obtain ⟨b,d⟩:=k1.at2 HZ
  simp only at b d
  have r:=k1.lt.2
  have C:=k1.owns.frozenAt
  have f0:=C (j*2)
  have f1:=C (j*2+1)
  go_simp
  have T:=k1.setH (i:=j) (x:=(I,L,F,H,J))
  refine hK.o _ (setH s g j (I,L,F,H,J)) (by exact T.lt.2) (fun m=>?_)
  have gw:=D.trans (rg s g j (I,L,F,H,J))
  generalize setH s g j (I,L,F,H,J)=a3 at T gw m ⊢
  refine dN ?_
  have Q:=az T
  have O:=az (Z.trans gw)
  go_wp2
  go_end0
  exact ⟨rfl,Q.o,O.o⟩
end
end Go.Proofs.YtpobkmjicbobdaaGreat
