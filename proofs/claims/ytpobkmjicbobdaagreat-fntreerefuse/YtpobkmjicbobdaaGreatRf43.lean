/- Walks. -/
import Derived.Test.YtpobkmjicbobdaaGreatRf42
namespace Go.Proofs.YtpobkmjicbobdaaGreat
set_option maxRecDepth 100000
set_option maxHeartbeats 40000000
open Go.RowKit
variable {M:List ac} {P R X cap cm cs cv len lo lo' nm ns nv:Nat} {S:List Int} {V:List (List af)} {a ak am av:Option Addr} {q:Int} {w w' wi wj:World}
def BS (R:Nat) (a:Option Addr) (len cap P d:Nat) (w:World) (e:Ending) (w':World):Prop:=∃q am nm cm av nv cv ak ns cs P',e=.returned (.agg #[iT q,.slice am nm cm,.slice av nv cv,.slice ak ns cs])∧fA w.heap.size R w' (.agg #[iT q,.slice am nm cm,.slice av nv cv,.slice ak ns cs])∧aU w' R a len cap P'∧P'≤P+d∧w.grownBy w' (some R)∧pq (.agg #[iT q,.slice am nm cm,.slice av nv cv,.slice ak ns cs])
theorem fA.low {v:Value} (h:fA lo R w v) (hl:lo'≤lo):fA lo' R w v:=by
 rcases h with h | h
 · obtain ⟨q,am,nm,cm,G,c,ak,ns,cs,gA,dA,e1,n1,d1,e2,n2,d2,M,A,B,C,S,e,hT,htb⟩:=h;exact .inl ⟨q,am,nm,cm,G,c,ak,ns,cs,gA,dA,e1,n1,d1,e2,n2,d2,M,A,B,C,S,e,hT.mono hl,htb⟩
 · exact .inr h
theorem uB (R P:Nat) (a:Option Addr) (len cap:Nat) (w:World) (h:aU w R a len cap P) (hlow:qM a len R) (hP:P<60000) :
 Calls Tryz.prog 78 #[.pointer (pT R)] w (BS R a len cap P 7000 w):=by
 obtain ⟨Z,hZ⟩:=aI w.heap.size;obtain ⟨W,hW⟩:=aI (w.alloc (.cells #[iT 0,nZ,nZ,nZ] 31));have kW:Bl w W:=by rw [hW];exact bZ
 have br:aw W Z (iT 0) nZ nZ nZ∧aq W Z 31 4:=by rw [hW,hZ];exact ⟨aw.new _ _ _ _ _ _,cC w #[iT 0,nZ,nZ,nZ] 31⟩
 have hRw:=h.lt;have HZ:Hid (w.heap.size≤Z∧R<w.heap.size∧qM a len R):=⟨Nat.le_of_eq hZ.symm,hRw,hlow⟩;have HRD:Hid (aU W R a len cap P):=h.below kW;have HKW:Hid (Bl w W):=kW;have HBR:Hid (aw W Z (iT 0) nZ nZ nZ∧aq W Z 31 4):=br;clear h hlow br kW hRw;go_enter Tryz.func78,Tryz.ntmps78
 go_wp2_with fail
 rw [← hW,← hZ];clear hW hZ;refine (uA R P a len cap W HRD.out HZ.out.2.2 hP).mono ?_;rintro e w1 ⟨v,P1,rfl,hg1,hR1,hP1,hG1,hs1⟩;obtain ⟨q,am,nm,cm,av,nv,cv,ak,ns,cs,rfl⟩:=hg1.val;have HG1:Hid (W.grownBy w1 (some R)):=hG1;have hne:Z≠R:=by have:=HZ.out;omega
 have HB1:Hid (aw w1 Z (iT 0) nZ nZ nZ∧aq w1 Z 31 4):=⟨HBR.out.1.grownB hG1 hne,HBR.out.2.grown hG1 hne⟩;go_wp2_with fail
 refine (uC R P1 W.heap.size a len cap _ w1 hR1 HZ.out.2.2 (by omega) (by have:=HKW.out.size;have:=HZ.out;omega) hG1.size hg1).mono ?_;rintro e w2 ⟨v,P2,rfl,ha2,hR2,hP2,hG2,hs2⟩;have HSV:=hs2 hs1;clear hs2 hs1;obtain ⟨q,am,nm,cm,av,nv,cv,ak,ns,cs,rfl⟩:=ha2.val;have HSV:Hid (pq (.agg #[iT q,.slice am nm cm,.slice av nv cv,.slice ak ns cs])):=HSV;have HB2:Hid (aw w2 Z (iT 0) nZ nZ nZ∧aq w2 Z 31 4):=⟨HB1.out.1.grownB hG2 hne,HB1.out.2.grown hG2 hne⟩;have HA2:Hid (fA W.heap.size R w2 (.agg #[iT q,.slice am nm cm,.slice av nv cv,.slice ak ns cs])):=ha2;have HY:Hid (aU w2 R a len cap P2∧w.grownBy w2 (some R)):=⟨hR2,ae (aF HKW.out) (ae HG1.out hG2)⟩;have HP2:P2≤P+7000:=by omega
 have r0:=HB2.out.1.c0;have r1:=HB2.out.1.c1;have r2:=HB2.out.1.c2;have r3:=HB2.out.1.c3;have rf:=HB2.out.1.fz;have rz:=HB2.out.1.lt;clear ha2 hR2 hG2 hg1 hR1 hG1 HB1 HG1 HBR HRD;go_wp2;refine bodyPost_ret (v:=.agg #[iT q,.slice am nm cm,.slice av nv cv,.slice ak ns cs]) ?_ rfl ⟨q,am,nm,cm,av,nv,cv,ak,ns,cs,P2,rfl,(HA2.out.four HB2.out.2 HB2.out.1).low HKW.out.size,?_,HP2,?_,HSV.out⟩
 · have e:=(((HB2.out.1.set0 (iT q)).set1 (.slice am nm cm)).set2 (.slice av nv cv)).set3 (.slice ak ns cs);simp [results,Tryz.results78,go_sem,e.c0,e.c1,e.c2,e.c3]
 · have hfar:∀b off,a=some ⟨b,off,none⟩→0<len→b≠Z:=fun b off e hl=>by
    have:=HZ.out;rcases this.2.2 with h0 | h0
    · omega
    · have:=h0 b off e;omega
   exact (((HY.out.1.other hne hfar _ _).other hne hfar _ _).other hne hfar _ _).other hne hfar _ _
 · have hle:w.heap.size≤Z:=HZ.out.1;exact aC (aC (aC (aC HY.out.2 hle (cn _ _ _ _)) hle (cn _ _ _ _)) hle (cn _ _ _ _)) hle (cn _ _ _ _)
def zP (w:World) (q:Int) (am:Option Addr) (nm cm:Nat) (av:Option Addr) (nv cv:Nat) (ak:Option Addr) (ns cs:Nat) (M:List ac) (V:List (List af)) (S:List Int):Prop:=(Lit.int .i64 q).wf=true∧bD 0 w am nm cm av nv cv ak ns cs M V S∧uY w av V∧(∃g,ak=some ⟨g,0,none⟩)
theorem uY.keep (h:uY w av V) (hb:Bl w w'):uY w' av V:=fun i B hB=>by
 obtain ⟨b,e,n,c,h1,h2⟩:=h i B hB
 exact ⟨b,e,n,c,h1,cell_later hb h2⟩
theorem zP.keep (h:zP w q am nm cm av nv cv ak ns cs M V S) (hb:Bl w w'):zP w' q am nm cm av nv cv ak ns cs M V S:=⟨h.1,h.2.1.keep hb,h.2.2.1.keep hb,h.2.2.2⟩
structure zW (w wi:World) (R X:Nat) (a:Option Addr) (len cap P:Nat):Prop where
 rd:aU wi R a len cap P
 low:qM a len R
 bx:aw wi X (iT 0) nZ nZ nZ
 kx:aq wi X 31 4
 bl:Bl w wi
 top:w.heap.size≤X∧X<R
theorem zW.below (h:zW w wi R X a len cap P) (hb:Bl wi wj):zW w wj R X a len cap P :=
 ⟨h.rd.below hb,h.low,h.bx.keep hb,h.kx.below hb,h.bl.trans (hb.mono h.bl.size),h.top⟩
theorem zW.read {P':Nat} (h:zW w wi R X a len cap P) (hg:wi.grownBy wj (some R)) (hr:aU wj R a len cap P'):zW w wj R X a len cap P' :=
 have e:X≠R:=by have:=h.top;omega
 ⟨hr,h.low,h.bx.grownB hg e,h.kx.grown hg e,h.bl.grown hg h.bl.size (fun k e=>by cases e;have:=h.top;omega),h.top⟩
theorem tj {W:World} (kA:Bl w W) (hc3:len=0∨∃b off,a=some ⟨b,off,none⟩∧b<w.heap.size∧∀i,i<len→∃z:Nat,z≤255∧w.cell? ⟨b,off+i,none⟩=some (.int .u8 z)):len=0∨∃b off,a=some ⟨b,off,none⟩∧b<W.heap.size∧∀i,i<len→∃z:Nat,z≤255∧W.cell? ⟨b,off+i,none⟩=some (.int .u8 z):=by
 rcases hc3 with h0 | ⟨b,off,ha,hb1,hcc⟩
 · exact Or.inl h0
 · exact Or.inr ⟨b,off,ha,Nat.lt_of_lt_of_le hb1 kA.size,fun i hi=>by obtain ⟨z,hz,hzc⟩:=hcc i hi;exact ⟨z,hz,cell_later kA hzc⟩⟩
theorem yO {w1:World} (h:aU w1 R a len cap P) (hs:w1.heap.size=R+1):qM a len R:=by
 rcases h.bytes with h0 | ⟨b,off,ha,h1,h2,_⟩
 · exact Or.inl h0
 · exact Or.inr (fun b' off' e=>by rw [ha] at e;cases e;omega)
theorem fA.treX (h:fA lo R w (.agg #[iT q,.slice am nm cm,.slice av nv cv,.slice ak ns cs])) (hk:aq w X 31 4) (hX:aw w X (iT 0) nZ nZ nZ) (hs:pq (.agg #[iT q,.slice am nm cm,.slice av nv cv,.slice ak ns cs])) (u0:Int) (a1 a2 a3:Option Addr) (m1 k1 m2 k2 m3 k3:Nat):∃M V S,zP ((((w.setCell ⟨X,0,none⟩ (iT u0)).setCell ⟨X,1,none⟩ (.slice a1 m1 k1)).setCell ⟨X,2,none⟩ (.slice a2 m2 k2)).setCell ⟨X,3,none⟩ (.slice a3 m3 k3)) q am nm cm av nv cv ak ns cs M V S:=by
 obtain ⟨q',am',nm',cm',av',nv',cv',ak',ns',cs',M,V,S,e,h1,h2,h3⟩:=(h.four hk hX).treeIn;cases e;obtain ⟨_,_,_,_,_,_,_,g3,_,_,e⟩:=hs;exact ⟨M,V,S,h1,h2,h3,⟨g3,by simp at e;simp [e]⟩⟩
def BZ (w:World) (e:Ending) (w':World):Prop:=∃q am nm cm av nv cv ak ns cs M V S,∃(g nb cb:Nat) (K:List ac),e=.returned (.tuple #[.agg #[iT q,.slice am nm cm,.slice av nv cv,.slice ak ns cs],sL g nb cb])∧zP w' q am nm cm av nv cv ak ns cs M V S∧ah w' (pT g) nb cb K∧nb≤13∧lF K∧Bl w w'
theorem mT (a:Option Addr) (len cap:Nat) (w:World) (hb:jy w a len cap) :
 Calls Tryz.prog 30 #[.slice a len cap] w (BZ w):=by
 obtain ⟨X,hX⟩:=aI w.heap.size;obtain ⟨W,hW⟩:=aI (w.alloc (.cells #[iT 0,nZ,nZ,nZ] 31));have kW:Bl w W:=by rw [hW];exact bZ
 have br:aw W X (iT 0) nZ nZ nZ∧aq W X 31 4:=by rw [hW,hX];exact ⟨aw.new _ _ _ _ _ _,cC w #[iT 0,nZ,nZ,nZ] 31⟩
 obtain ⟨hc1,hc2,hc3⟩:=hb;have hc3':=tj kW hc3;have HK:Hid (w.heap.size≤X∧X<W.heap.size∧Bl w W):=⟨Nat.le_of_eq hX.symm,br.1.lt,kW⟩;have HB:Hid (aw W X (iT 0) nZ nZ nZ∧aq W X 31 4):=br;clear br kW hc3;go_enter Tryz.func30,Tryz.ntmps30
 go_wp2_with fail
 rw [← hW];try rw [← hX]
 clear hW hX;refine (uy a len cap _ hc1 hc2 hc3').mono ?_;rintro e w1 ⟨len',rfl,hR1,hb1,hsz1⟩;obtain ⟨R,hR⟩:=aI W.heap.size;rw [← hR] at hR1 hsz1;rw [← hR];have S1:Hid (zW w w1 R X a len' cap 0):=⟨hR1,yO hR1 hsz1,HB.out.1.keep hb1,HB.out.2.below hb1,HK.out.2.2.trans (hb1.mono HK.out.2.2.size),HK.out.1,by rw [hR];exact HK.out.2.1⟩;clear hc1 hc2 hc3' hR1 hb1 hsz1 hR HK HB;go_wp2_with fail
 refine (uB R 0 a len' cap w1 S1.out.rd S1.out.low (by omega)).mono ?_;rintro e w2 ⟨q,am,nm,cm,av,nv,cv,ak,ns,cs,P2,rfl,hA2,hR2,hP2,hG2,hsv⟩;have HSV:Hid (pq (.agg #[iT q,.slice am nm cm,.slice av nv cv,.slice ak ns cs])):=hsv;have S2:Hid (zW w w2 R X a len' cap P2):=S1.out.read hG2 hR2;have HA2:Hid (fA w1.heap.size R w2 (.agg #[iT q,.slice am nm cm,.slice av nv cv,.slice ak ns cs])):=hA2;have HSZ:Hid (R<w1.heap.size∧w1.heap.size≤w2.heap.size):=⟨S1.out.rd.lt,hG2.size⟩;clear S1 hA2 hR2 hG2 hsv;obtain ⟨Y,hY⟩:=aI w2.heap.size;obtain ⟨w3,hw3⟩:=aI (w2.alloc (.cells #[iT q,.slice am nm cm,.slice av nv cv,.slice ak ns cs] 31));have k3:Bl w2 w3:=by rw [hw3];exact bZ
 have BY:Hid (aw w3 Y (iT q) (.slice am nm cm) (.slice av nv cv) (.slice ak ns cs)):=by rw [hw3,hY];exact aw.new _ _ _ _ _ _
 have S3:Hid (zW w w3 R X a len' cap P2):=S2.out.below k3;have HA3:Hid (fA w1.heap.size R w3 (.agg #[iT q,.slice am nm cm,.slice av nv cv,.slice ak ns cs])):=HA2.out.below k3;have HYX:Hid (X<Y∧R<Y∧R<w3.heap.size):=by have:=S2.out.rd.lt;have:=S2.out.top;have:=S3.out.rd.lt;exact ⟨by omega,by omega,this⟩
 clear S2 HA2 k3;go_upto_region 3 with fail
 rw [← hw3];try rw [← hY]
 clear hw3 hY;have HMK:Hid (∀w',aw w' Y (iT q) (.slice am nm cm) (.slice av nv cv) (.slice ak ns cs)→(fun w':World=>w'.cell? ⟨Y,0,none⟩=some (iT q)∧w'.cell? ⟨Y,1,none⟩=some (.slice am nm cm)∧w'.cell? ⟨Y,2,none⟩=some (.slice av nv cv)∧w'.cell? ⟨Y,3,none⟩=some (.slice ak ns cs)∧Y<w'.heap.size) w'):=fun w' b=>⟨b.c0,b.c1,b.c2,b.c3,b.lt⟩
 have kd:=(Below.refl w3.heap.size w3).drew;have S4:Hid (zW w w3.drew R X a len' cap P2):=S3.out.below kd;have HA4:Hid (fA w1.heap.size R w3.drew (.agg #[iT q,.slice am nm cm,.slice av nv cv,.slice ak ns cs])):=HA3.out.below kd;have BY4:Hid (aw w3.drew Y (iT q) (.slice am nm cm) (.slice av nv cv) (.slice ak ns cs)):=BY.out.keep kd;clear kd S3 HA3 BY;refine eH HMK BY4.out fun aa=>?_
 generalize w3.drew=wd at aa S4 HA4 BY4 ⊢;refine aO 0 2 aa ?_;refine aH 2 fun K hK=>?_
 go_simp;refine (mL R P2 a len' cap _ S4.out.rd (by omega)).mono ?_;rintro e w5 ⟨g,nb,cb,P',L,rfl,hO,hF,hn,hR5,hP5,hg5⟩;have hYR:Y≠R:=by have:=HYX.out;omega
 have S5:Hid (zW w w5 R X a len' cap P'):=S4.out.read hg5 hR5;have HA5:Hid (fA w1.heap.size R w5 (.agg #[iT q,.slice am nm cm,.slice av nv cv,.slice ak ns cs])):=HA4.out.read S4.out.rd HSZ.out.1 hg5;have BY5:Hid (aw w5 Y (iT q) (.slice am nm cm) (.slice av nv cv) (.slice ak ns cs)):=BY4.out.grownB hg5 hYR;have HO:Hid (ar w5 (R+1) g nb cb L):=hO.mono S4.out.rd.lt;have HF:Hid (lF L):=hF;clear hO hF hR5 hg5 S4 HA4 BY4;go_wp2_with fail
 refine hK.out _ _ (HMK.out _ BY5.out) (fun aa=>?_);clear hK K;(try go_frame);have HMS:Hid (∀u0 u1 u2 u3,aw ((((w5.setCell ⟨X,0,none⟩ u0).setCell ⟨X,1,none⟩ u1).setCell ⟨X,2,none⟩ u2).setCell ⟨X,3,none⟩ u3) Y (iT q) (.slice am nm cm) (.slice av nv cv) (.slice ak ns cs)):=fun u0 u1 u2 u3=>by
  have hne:X≠Y:=by have:=HYX.out;omega
  exact (((BY5.out.other hne _).other hne _).other hne _).other hne _
 refine aH 3 fun K hK=>?_
 have r0:=S5.out.bx.c0;have r1:=S5.out.bx.c1;have r2:=S5.out.bx.c2;have r3:=S5.out.bx.c3;have rf:=S5.out.bx.fz;have rz:=S5.out.bx.lt;go_simp;refine hK.out _ _ (HMK.out _ (HMS.out _ _ _ _)) (fun aa=>?_);clear hK K r0 r1 r2 r3 rf rz;(try go_frame);refine aO 4 1 aa ?_;refine dN ?_;clear aa HMK HMS;go_wp2;obtain ⟨M,T,S,hT⟩:=HA5.out.treX S5.out.kx S5.out.bx HSV.out q am av ak nm cm nv cv ns cs;refine bodyPost_ret (v:=.tuple #[.agg #[iT q,.slice am nm cm,.slice av nv cv,.slice ak ns cs],sL g nb cb]) ?_ rfl ⟨q,am,nm,cm,av,nv,cv,ak,ns,cs,M,T,S,g,nb,cb,L,rfl,hT,(HO.out.kp (R:=R) (Nat.lt_succ_self _) (iP.four S5.out.kx _ _ _ _)).entsAt,hn,HF.out,((((S5.out.bl.setCell (p:=⟨X,0,none⟩) S5.out.top.1 _).setCell (p:=⟨X,1,none⟩) S5.out.top.1 _).setCell (p:=⟨X,2,none⟩) S5.out.top.1 _).setCell (p:=⟨X,3,none⟩) S5.out.top.1 _)⟩;have e:=(((S5.out.bx.set0 (iT q)).set1 (.slice am nm cm)).set2 (.slice av nv cv)).set3 (.slice ak ns cs);simp [results,Tryz.results30,go_sem,e.c0,e.c1,e.c2,e.c3]
theorem vW {hi hi':Nat} {gs bs:Nat→Nat} {es:Nat→Nat→Nat} (h:my lo hi w am nm av nv ak ns M V S gs bs es) (hX:X<lo) (hl:lo'≤lo) (hh:hi≤hi') (u0 u1 u2 u3:Value):my lo' hi' ((((w.setCell ⟨X,0,none⟩ u0).setCell ⟨X,1,none⟩ u1).setCell ⟨X,2,none⟩ u2).setCell ⟨X,3,none⟩ u3) am nm av nv ak ns M V S gs bs es:=by
 rcases h with ⟨b1,b2,b3,h1,h2,h3,h4⟩ | h
 · exact .inl ⟨b1,b2,b3,h1,h2,h3,jJ h4 hX hl hh _ _ _ _⟩
 · exact .inr h
theorem nC (cb1:Nat)  (sq:Int) (am:Option Addr) (nm cm b off cv:Nat) (ak:Option Addr) (nk ck:Nat) (a0:Option Addr) (n0 c0:Nat) (a1:Option Addr) (n1 c1:Nat) (a2:Option Addr) (n2 c2:Nat) (q2:Int) (M2:List ac) (A2 B2 C2:List af) (S2:List Int) (w:World) (hCS:∀w',Bl w w'→Calls Tryz.prog 86 #[.agg #[iT sq,.slice am nm cm,sO b off 3 cv,.slice ak nk ck]] w' fun e w''=>e=.returned (.tuple #[.agg #[iT sq,.slice am nm cm,.slice a0 n0 c0,.slice a1 n1 c1,.slice a2 n2 c2,.slice ak nk ck],.bool true])∧Bl w' w'') (hC:∀w',Bl w w'→Calls Tryz.prog 96 #[.agg #[iT sq,.slice am nm cm,.slice a0 n0 c0,.slice a1 n1 c1,.slice a2 n2 c2,.slice ak nk ck],.pointer (pT cb1)] w' (BA q2 M2 A2 B2 C2 S2 w')) (ho:tC M2 A2 B2 C2 S2) :
 Calls Tryz.prog 61 #[.agg #[iT sq,.slice am nm cm,sO b off 3 cv,.slice ak nk ck],.func (.func 96) #[] #[.pointer (pT cb1)]] w (pL q2 M2 [A2,B2,C2] S2 true w):=by
 have HCS:=bK hCS;obtain ⟨X,hX⟩:=aI w.heap.size;obtain ⟨W,hW⟩:=aI ((w.alloc (.cells #[iT sq,.slice am nm cm,sO b off 3 cv,.slice ak nk ck] 31)).alloc (.cells #[iT 0,nZ,nZ,nZ] 31));have kW:Bl w W:=by rw [hW];exact bZ.alloc (by simp) _
 have br:aw W (X+1) (iT 0) nZ nZ nZ:=by
  have:=aw.new (w.alloc (.cells #[iT sq,.slice am nm cm,sO b off 3 cv,.slice ak nk ck] 31)) 31 (iT 0) nZ nZ nZ;rw [World.size_alloc] at this;rw [hW,hX];exact this
 have HX:Hid (X=w.heap.size):=hX;have K0:Hid (Bl w W):=kW;have BR0:Hid (aw W (X+1) (iT 0) nZ nZ nZ):=br;have CSN:=bK hC;have HO:=bK ho;clear kW br hCS hC ho;go_enter Tryz.func61,Tryz.ntmps61
 go_wp2_with fail
 rw [← hX,← hW];clear hX hW;refine (HCS.out _ K0.out).mono ?_;rintro e w1 ⟨rfl,hb1⟩;obtain ⟨w2,hw2⟩:=aI (w1.alloc (.cells #[iT sq,.slice am nm cm,.slice a0 n0 c0,.slice a1 n1 c1,.slice a2 n2 c2,.slice ak nk ck] 82));have k2:Bl w1 w2:=by rw [hw2];exact bZ
 have K2:Hid (Bl w w2):=(K0.out.trans (hb1.mono K0.out.size)).trans (k2.mono (Nat.le_trans K0.out.size hb1.size));have BR2:Hid (aw w2 (X+1) (iT 0) nZ nZ nZ):=(BR0.out.keep hb1).keep k2;clear hb1 k2;go_wp2_with fail
 rw [← hw2];refine (CSN.out _ K2.out).mono ?_;rintro e w3 ⟨am2,nm2,cm2,a02,n02,c02,a12,n12,c12,a22,n22,c22,ak2,nk2,ck2,rfl,hI3,hb3⟩;obtain ⟨w4,hw4⟩:=aI (w3.alloc (.cells #[iT q2,.slice am2 nm2 cm2,.slice a02 n02 c02,.slice a12 n12 c12,.slice a22 n22 c22,.slice ak2 nk2 ck2] 82));have k4:Bl w3 w4:=by rw [hw4];exact bZ
 have K4:Hid (Bl w w4):=(K2.out.trans (hb3.mono K2.out.size)).trans (k4.mono (Nat.le_trans K2.out.size hb3.size));have BR4:Hid (aw w4 (X+1) (iT 0) nZ nZ nZ):=(BR2.out.keep hb3).keep k4;have HI4:Hid (pK w4 am2 nm2 cm2 a02 n02 c02 a12 n12 c12 a22 n22 c22 ak2 nk2 ck2 M2 A2 B2 C2 S2):=hI3.keep k4;clear hb3 k4 hI3 hw2;go_wp2_with fail
 rw [← hw4];clear hw4;refine (tr q2 _ _ _ _ _ _ _ _ _ _ _ _ _ _ _ M2 A2 B2 C2 S2 _ HI4.out HO.out).mono ?_;rintro e w5 ⟨eb,vb,sb,gs,bs,es,rfl,_,hO5,hb5⟩;have K5:Hid (Bl w w5):=K4.out.trans (hb5.mono K4.out.size);have HO5:Hid (eN w4.heap.size w5.heap.size w5 eb nm2 vb 3 sb nk2 M2 [A2,B2,C2] S2 gs bs es):=hO5;have r5:=(BR4.out.keep hb5);have HR5:Hid (aw w5 (X+1) (iT 0) nZ nZ nZ):=r5;have HXL:Hid (X+1<w4.heap.size):=BR4.out.lt;have d0:=r5.c0;have d1:=r5.c1;have d2:=r5.c2;have d3:=r5.c3;have df:=r5.fz;have dz:=r5.lt;clear hO5 hb5 r5;go_wp2;refine bodyPost_ret (v:=.tuple #[.agg #[iT q2,sL eb nm2 nm2,sL vb 3 3,sL sb nk2 nk2],.bool true]) ?_ rfl ⟨some ⟨eb,0,none⟩,nm2,some ⟨vb,0,none⟩,3,some ⟨sb,0,none⟩,nk2,gs,bs,es,rfl,.inl ⟨eb,vb,sb,rfl,rfl,rfl,?_⟩,?_⟩
 · have e:=(((HR5.out.set0 (iT q2)).set1 (sL eb nm2 nm2)).set2 (sL vb 3 3)).set3 (sL sb nk2 nk2);simp [results,Tryz.results61,go_sem,e.c0,e.c1,e.c2,e.c3]
 · exact jJ HO5.out HXL.out K4.out.size (by simp [World.setCell]) _ _ _ _
 · have hx:w.heap.size≤X+1:=by have:=HX.out;omega
   exact iR K5.out hx _ _ _ _
theorem nE (cb1:Nat)  (sq:Int) (am:Option Addr) (nm cm b off cv:Nat) (ak:Option Addr) (nk ck:Nat) (a0:Option Addr) (n0 c0:Nat) (a1:Option Addr) (n1 c1:Nat) (a2:Option Addr) (n2 c2:Nat) (M:List ac) (A B C:List af) (S:List Int) (w:World) (hSh:pK w am nm cm a0 n0 c0 a1 n1 c1 a2 n2 c2 ak nk ck M A B C S) (hCS:∀w',Bl w w'→Calls Tryz.prog 86 #[.agg #[iT sq,.slice am nm cm,sO b off 3 cv,.slice ak nk ck]] w' fun e w''=>e=.returned (.tuple #[.agg #[iT sq,.slice am nm cm,.slice a0 n0 c0,.slice a1 n1 c1,.slice a2 n2 c2,.slice ak nk ck],.bool true])∧Bl w' w'') (hC:∀w',Bl w w'→Calls Tryz.prog 96 #[.agg #[iT sq,.slice am nm cm,.slice a0 n0 c0,.slice a1 n1 c1,.slice a2 n2 c2,.slice ak nk ck],.pointer (pT cb1)] w' (A9 w')) (ho:tC M A B C S) :
 Calls Tryz.prog 61 #[.agg #[iT sq,.slice am nm cm,sO b off 3 cv,.slice ak nk ck],.func (.func 96) #[] #[.pointer (pT cb1)]] w (pL sq M [A,B,C] S false w):=by
 have HCS:=bK hCS;obtain ⟨X,hX⟩:=aI w.heap.size;obtain ⟨W,hW⟩:=aI ((w.alloc (.cells #[iT sq,.slice am nm cm,sO b off 3 cv,.slice ak nk ck] 31)).alloc (.cells #[iT 0,nZ,nZ,nZ] 31));have kW:Bl w W:=by rw [hW];exact bZ.alloc (by simp) _
 have br:aw W (X+1) (iT 0) nZ nZ nZ:=by
  have:=aw.new (w.alloc (.cells #[iT sq,.slice am nm cm,sO b off 3 cv,.slice ak nk ck] 31)) 31 (iT 0) nZ nZ nZ;rw [World.size_alloc] at this;rw [hW,hX];exact this
 have HX:Hid (X=w.heap.size):=hX;have K0:Hid (Bl w W):=kW;have BR0:Hid (aw W (X+1) (iT 0) nZ nZ nZ):=br;have CSN:=bK hC;have HO:=bK ho;have HSI:=bK hSh;clear kW br hCS hC ho hSh;go_enter Tryz.func61,Tryz.ntmps61
 go_wp2_with fail
 rw [← hX,← hW];clear hX hW;refine (HCS.out _ K0.out).mono ?_;rintro e w1 ⟨rfl,hb1⟩;obtain ⟨P1,hP1⟩:=aI w1.heap.size;obtain ⟨w2,hw2⟩:=aI (w1.alloc (.cells #[iT sq,.slice am nm cm,.slice a0 n0 c0,.slice a1 n1 c1,.slice a2 n2 c2,.slice ak nk ck] 82));have k2:Bl w1 w2:=by rw [hw2];exact bZ
 have K2:Hid (Bl w w2):=(K0.out.trans (hb1.mono K0.out.size)).trans (k2.mono (Nat.le_trans K0.out.size hb1.size));have BR2:Hid (aw w2 (X+1) (iT 0) nZ nZ nZ):=(BR0.out.keep hb1).keep k2;have BW2:Hid (cf w2 P1 (iT sq) (.slice am nm cm) (.slice a0 n0 c0) (.slice a1 n1 c1) (.slice a2 n2 c2) (.slice ak nk ck)):=by rw [hw2,hP1];exact cf.new _ _ _ _ _ _ _ _
 clear hb1 k2;go_wp2_with fail
 rw [← hw2];try rw [← hP1]
 clear hP1 hw2;refine (CSN.out _ K2.out).mono ?_;rintro e w3 ⟨q2,am2,nm2,cm2,a02,n02,c02,a12,n12,c12,a22,n22,c22,ak2,nk2,ck2,rfl,hb3⟩;have BW3:Hid (cf w3 P1 (iT sq) (.slice am nm cm) (.slice a0 n0 c0) (.slice a1 n1 c1) (.slice a2 n2 c2) (.slice ak nk ck)):=BW2.out.keep hb3;obtain ⟨P2,hP2⟩:=aI w3.heap.size;obtain ⟨wn,hwn⟩:=aI (w3.alloc (.cells #[iT q2,.slice am2 nm2 cm2,.slice a02 n02 c02,.slice a12 n12 c12,.slice a22 n22 c22,.slice ak2 nk2 ck2] 82));have kn:Bl w3 wn:=by rw [hwn];exact bZ
 have K3:Hid (Bl w w3):=K2.out.trans (hb3.mono K2.out.size);have Kn:Hid (Bl w wn):=K3.out.trans (kn.mono K3.out.size);have bwn:=BW3.out.keep kn;have bnn:cf wn P2 (iT q2) (.slice am2 nm2 cm2) (.slice a02 n02 c02) (.slice a12 n12 c12) (.slice a22 n22 c22) (.slice ak2 nk2 ck2):=by rw [hwn,hP2];exact cf.new _ _ _ _ _ _ _ _
 have hP2w:w.heap.size≤P2:=by rw [hP2];exact K3.out.size
 have rn:=(BR2.out.keep hb3).keep kn;have hrP:X+1≠P2:=by rw [hP2];have:=(BR2.out.keep hb3).lt;omega
 obtain ⟨w4,hw4⟩:=aI ((((((wn.setCell ⟨P2,0,none⟩ (iT sq)).setCell ⟨P2,1,none⟩ (.slice am nm cm)).setCell ⟨P2,2,none⟩ (.slice a0 n0 c0)).setCell ⟨P2,3,none⟩ (.slice a1 n1 c1)).setCell ⟨P2,4,none⟩ (.slice a2 n2 c2)).setCell ⟨P2,5,none⟩ (.slice ak nk ck));have K4:Hid (Bl w w4):=by
  rw [hw4];exact ((iR Kn.out hP2w _ _ _ _).setCell (p:=⟨P2,4,none⟩) hP2w _).setCell (p:=⟨P2,5,none⟩) hP2w _
 have BR4:Hid (aw w4 (X+1) (iT 0) nZ nZ nZ):=by
  rw [hw4];exact (((((rn.other (b':=P2) (o:=0) hrP.symm _).other (b':=P2) (o:=1) hrP.symm _).other (b':=P2) (o:=2) hrP.symm _).other (b':=P2) (o:=3) hrP.symm _).other (b':=P2) (o:=4) hrP.symm _).other (b':=P2) (o:=5) hrP.symm _
 have x0:=bwn.c0;have x1:=bwn.c1;have x2:=bwn.c2;have x3:=bwn.c3;have x4:=bwn.c4;have x5:=bwn.c5;have xz:=bwn.lt;have y0:=bnn.c0;have y1:=bnn.c1;have y2:=bnn.c2;have y3:=bnn.c3;have y4:=bnn.c4;have y5:=bnn.c5;have yf:=bnn.fz;have yz:=bnn.lt;have hne:P1≠P2:=by rw [hP2];have:=BW3.out.lt;omega
 clear hb3 kn rn bwn bnn hrP hP2w;go_upto_region 6 with fail
 rw [← hwn];try rw [← hP2]
 clear hwn hP2;go_wp2_with fail
 rw [← hw4];clear hw4 x0 x1 x2 x3 x4 x5 xz y0 y1 y2 y3 y4 y5 yf yz;refine (tr sq _ _ _ _ _ _ _ _ _ _ _ _ _ _ _ M A B C S _ (HSI.out.keep K4.out) HO.out).mono ?_;rintro e w5 ⟨eb,vb,sb,gs,bs,es,rfl,_,hO5,hb5⟩;have K5:Hid (Bl w w5):=K4.out.trans (hb5.mono K4.out.size);have HO5:Hid (eN w4.heap.size w5.heap.size w5 eb nm vb 3 sb nk M [A,B,C] S gs bs es):=hO5;have r5:=(BR4.out.keep hb5);have HR5:Hid (aw w5 (X+1) (iT 0) nZ nZ nZ):=r5;have HXL:Hid (X+1<w4.heap.size):=BR4.out.lt;have d0:=r5.c0;have d1:=r5.c1;have d2:=r5.c2;have d3:=r5.c3;have df:=r5.fz;have dz:=r5.lt;clear hO5 hb5 r5;go_wp2;refine bodyPost_ret (v:=.tuple #[.agg #[iT sq,sL eb nm nm,sL vb 3 3,sL sb nk nk],.bool false]) ?_ rfl ⟨some ⟨eb,0,none⟩,nm,some ⟨vb,0,none⟩,3,some ⟨sb,0,none⟩,nk,gs,bs,es,rfl,.inl ⟨eb,vb,sb,rfl,rfl,rfl,?_⟩,?_⟩
 · have e:=(((HR5.out.set0 (iT sq)).set1 (sL eb nm nm)).set2 (sL vb 3 3)).set3 (sL sb nk nk);simp [results,Tryz.results61,go_sem,e.c0,e.c1,e.c2,e.c3]
 · exact jJ HO5.out HXL.out K4.out.size (by simp [World.setCell]) _ _ _ _
 · have hx:w.heap.size≤X+1:=by have:=HX.out;omega
   exact iR K5.out hx _ _ _ _
theorem wM (a:Option Addr) (n c:Nat) (K:List ac) (q:Int) (w:World) (hK:ah w a n c K) (hn:n≤1048576) (hq0:0≤q) (hq1:q≤100000) :
 Calls Tryz.prog 157 #[.slice a n c,iT q] w fun e w'=>j9 q K n w e w':=by
 have HK:=bK hK;have HKL:Hid (K.length=n):=hK.length;clear hK;obtain ⟨i0,hi,hz0,hz1,hz2⟩:=info_parts Tryz.infoEnt;go_enter Tryz.func157,Tryz.ntmps157
 go_wp2;go_loopw [6,11] (fun vv iv wr=>∃i:Nat,i≤n∧iv=iT i∧wr.ownsRow w.heap.size 50 5 vv i (az (dU q (K.take i)))∧(∀l ∈ dU q (K.take i),dS l)∧(∀j,j<i→iQ q K j=true)∧Bl w wr) (fun _ iv _=>n - (intOf iv).toNat)
 case atStart=>exact ⟨0,Nat.zero_le _,rfl,by simpa [dU,az] using World.ownsRow_nil _ _ _ _,(by simp [dU]),(fun j hj=>absurd hj (Nat.not_lt_zero _)),Below.refl _ _⟩
 case round =>
  obtain ⟨i,hin,rfl,hv,hw,hst,hb⟩:=hrel;have HV:Hid (wr.ownsRow w.heap.size 50 5 _ i (az (dU q (K.take i)))):=hv;have HW:Hid (∀l ∈ dU q (K.take i),dS l):=hw;have HST:Hid (∀j,j<i→iQ q K j=true):=hst;have HB:Hid (Bl w wr):=hb;have hbz:=hb.size;clear hv hw hst;by_cases hlt:i<n
  · have hltI:(i:Int)<(n:Int):=by omega
    obtain ⟨b,off,rfl,hbb⟩:=HK.out.form (by omega);obtain ⟨s,q0,d,t,m,hg,hlw,g0,g1,g2,g3,g4⟩:=HK.out.ent hb hbb i hlt;have HG:Hid (K[i]?=some (s,q0,d,t,m)):=hg;have HLW:Hid (dS (s,q0,d,t,m)):=hlw;have hbr:b<wr.heap.size:=Nat.lt_of_lt_of_le hbb hb.size;clear hg hlw hb;by_cases h0:q0=0
    · subst h0;have e1:IntKind.i64.wrap (q+1)=q+1:=by rw [IntWalk.i64_left];unfold wrap64;omega
      have e2:IntKind.i64.wrap (q+1+(i:Int))=q+1+(i:Int):=by rw [IntWalk.i64_left];unfold wrap64;omega
      obtain ⟨Q,hQ⟩:∃Q:Int,Q=q+1+(i:Int):=⟨_,rfl⟩;have HQ:Hid (Q=q+1+(i:Int)):=hQ;obtain ⟨wq,hwq⟩:=aI (wr.alloc (.cells #[.string s,iT (q+1+(i:Int)),iT d,.string t,iT m] 50));obtain ⟨Bx,hBx⟩:=aI wr.heap.size;have kq:Bl wr wq:=by rw [hwq];exact bZ
      have b5:wq.cell? ⟨Bx,0,none⟩=some (.string s)∧wq.cell? ⟨Bx,1,none⟩=some (iT Q)∧wq.cell? ⟨Bx,2,none⟩=some (iT d)∧wq.cell? ⟨Bx,3,none⟩=some (.string t)∧wq.cell? ⟨Bx,4,none⟩=some (iT m)∧Bx<wq.heap.size:=by
       rw [hwq,hBx,hQ];refine ⟨?_,?_,?_,?_,?_,?_⟩ <;> simp
      have B5:Hid (wq.cell? ⟨Bx,0,none⟩=some (.string s)∧wq.cell? ⟨Bx,1,none⟩=some (iT Q)∧wq.cell? ⟨Bx,2,none⟩=some (iT d)∧wq.cell? ⟨Bx,3,none⟩=some (.string t)∧wq.cell? ⟨Bx,4,none⟩=some (iT m)∧Bx<wq.heap.size):=b5;obtain ⟨O,hO⟩:=aI (cW s Q d t m);have CE:Hid (Calls Tryz.prog 33 #[.agg #[.string s,iT Q,iT d,.string t,iT m]] wq fun e w'=>e=.returned (.bool O)∧Bl wq w'):=by rw [hO];exact nd s t Q d m wq HLW.out.1
      have HOA:Hid (iQ q K i=O):=by
       show iQ q K i=O
       rw [yg HG.out rfl,hO,hQ]
      have HBQ:Hid (Bl w wq):=HB.out.trans (kq.mono HB.out.size);have HVQ:Hid (wq.ownsRow w.heap.size 50 5 _ i (az (dU q (K.take i)))):=bf HV.out kq;have HWE:Hid (dS (s,Q,d,t,m)):=⟨HLW.out.1,(by rw [hQ];exact WalkArith.wf_i64 (by omega):(Lit.int .i64 Q).wf=true),HLW.out.2.2⟩;clear kq b5 hO;go_upto_region 8 with fail
      rw [← hwq];try rw [← hBx]
      try rw [← hQ]
      clear hwq hBx hQ;obtain ⟨y0,y1,y2,y3,y4,yz⟩:=B5.out;go_wp2_with fail
      clear y0 y1 y2 y3 y4 yz g0 g1 g2 g3 g4;refine CE.out.mono ?_;rintro e w1 ⟨rfl,hb1⟩;have HB1:Hid (Bl w w1):=HBQ.out.trans (hb1.mono HBQ.out.size);have HV1:Hid (w1.ownsRow w.heap.size 50 5 _ i (az (dU q (K.take i)))):=bf HVQ.out hb1;obtain ⟨y0,y1,y2,y3,y4,yz⟩:=B5.out;have y0:=cell_later hb1 y0;have y1:=cell_later hb1 y1;have y2:=cell_later hb1 y2;have y3:=cell_later hb1 y3;have y4:=cell_later hb1 y4;have yz:=Nat.lt_of_lt_of_le yz hb1.size;have hb1z:=HB1.out.size;clear hb1;cases O with
      | false =>
       have HNO:Hid (cV q K=false):=kJ (i:=i) (by rw [HKL.out];exact hlt) HOA.out;go_wp2;exact bodyPost_ret (v:=.tuple #[nZ,.bool false]) (by simp [results,Tryz.results157,go_sem]) rfl (show j9 q K _ w _ _ from ⟨_,_,rfl,(fun h=>by rw [HNO.out] at h;cases h),fun _=>⟨rfl,rfl⟩,HB1.out⟩)
      | true =>
       have hcn:∀j u,[Value.string s,iT Q,iT d,.string t,iT m][j]?=some u→(w1.alloc (.cells #[.string s,iT Q,iT d,.string t,iT m] 50)).cell? ((⟨w1.heap.size,0,none⟩:Addr).add j)=some u:=jG w1 s Q d t m;have HCN:=bK hcn;have ka:Bl w1 (w1.alloc (.cells #[.string s,iT Q,iT d,.string t,iT m] 50)):=bZ;have HVA:Hid ((w1.alloc (.cells #[.string s,iT Q,iT d,.string t,iT m] 50)).ownsRow w.heap.size 50 5 _ i (az (dU q (K.take i)))):=bf HV1.out ka;have HBA:Hid (Bl w (w1.alloc (.cells #[.string s,iT Q,iT d,.string t,iT m] 50))):=HB1.out.trans (ka.mono HB1.out.size);clear hcn ka;go_wp2_with (at_builtin;refine wpList_append_own _ rfl _ _ 28 rfl w.heap.size 50 i0 _ 5 56 Tryz.underlying28 hi hz0 hz1 hz2 rfl (by decide) _ _ _ rfl HVA.out ⟨w1.heap.size,0,none⟩ 1 1 [.string s,iT Q,iT d,.string t,iT m] rfl rfl HCN.out (by intro u hu;simp at hu;rcases hu with rfl | rfl | rfl | rfl | rfl <;> rfl) (by unfold maxLen;omega) (by omega) HBA.out.size ?_;intro v2 w2 hown2 hgrow2 hnil2)
       go_roundw
       case rel =>
        have e3:dU q (K.take (i+1))=dU q (K.take i)++[(s,Q,d,t,m)]:=by
         rw [rP HG.out,HQ.out];rfl
        refine ⟨i+1,by omega,by go_num,?_,?_,?_,?_⟩
        · rw [e3,aR];exact hown2
        · rw [e3];intro l hl;rcases List.mem_append.1 hl with h | h
          · exact HW.out l h
          · rw [List.mem_singleton] at h;subst h;exact HWE.out
        · intro j hj;by_cases hji:j<i
          · exact HST.out j hji
          · rw [show j=i by omega];exact HOA.out
        · exact HBA.out.grown hgrow2 HBA.out.size (fun k e=>(HVA.out.lt k e).1)
       case measure=>simp [intOf];omega
    · have HNO:Hid (cV q K=false):=kJ (i:=i) (by rw [HKL.out];exact hlt) (tP HG.out h0);have h0b:(q0 == 0)=false:=by simpa using h0
      have h0d:decide (q0=0)=false:=decide_eq_false h0;have HBN:Hid (Bl w (wr.alloc (.cells #[.string s,iT q0,iT d,.string t,iT m] 50))):=HB.out.alloc HB.out.size _;go_wp2;exact bodyPost_ret (v:=.tuple #[nZ,.bool false]) (by simp [results,Tryz.results157,go_sem]) rfl (show j9 q K _ w _ _ from ⟨_,_,rfl,(fun h=>by rw [HNO.out] at h;cases h),fun _=>⟨rfl,rfl⟩,HBN.out⟩)
  · have hltI:¬(i:Int)<(n:Int):=by omega
    obtain rfl:i=n:=by omega
    have HYES:Hid (cV q K=true):=pO HKL.out HST.out;have HFIN:=HV.out;rw [List.take_of_length_le (by rw [HKL.out];omega)] at HFIN;have hwl:=HW.out;rw [List.take_of_length_le (by rw [HKL.out];omega)] at hwl;have hsl:(dU q K).length=i:=by rw [eV,HKL.out]
    obtain ⟨a5,c5,hv5,hO5⟩:=yH HFIN hsl hwl;subst hv5;have HRES:Hid (dG wr w.heap.size a5 i c5 (dU q K)):=hO5;clear HFIN hwl hsl hO5;by_cases h1:0<i
    · have h1I:(i:Int) > 0:=by omega
      have h1J:(0:Int)<(i:Int):=by omega
      go_wp2;exact bodyPost_ret (v:=.tuple #[.slice a5 i c5,.bool true]) (by simp [results,Tryz.results157,go_sem]) rfl (show j9 q K _ w _ _ from ⟨_,_,rfl,(fun _=>⟨⟨a5,c5,rfl,HRES.out⟩,by simp [h1]⟩),(fun h=>by rw [HYES.out] at h;cases h),HB.out⟩)
    · have h1I:¬(i:Int) > 0:=by omega
      have h1J:¬(0:Int)<(i:Int):=by omega
      go_wp2;exact bodyPost_ret (v:=.tuple #[.slice a5 i c5,.bool false]) (by simp [results,Tryz.results157,go_sem]) rfl (show j9 q K _ w _ _ from ⟨_,_,rfl,(fun _=>⟨⟨a5,c5,rfl,HRES.out⟩,by simp [h1]⟩),(fun h=>by rw [HYES.out] at h;cases h),HB.out⟩)
end Go.Proofs.YtpobkmjicbobdaaGreat
