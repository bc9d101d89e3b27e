/- Walks. -/
import Derived.Test.YtpobkmjicbobdaaGreatSn45
namespace Go.Proofs.YtpobkmjicbobdaaGreat
set_option maxRecDepth 100000
set_option maxHeartbeats 40000000
open Go.RowKit
variable {M:List ac} {P R X cap cm cs cv len lo lo' nm ns nv:Nat} {S:List Int} {V:List (List af)} {a ak am av:Option Addr} {q:Int} {w w' wi wj:World}
def At (R:Nat) (a:Option Addr) (len cap P d:Nat) (w:World) (e:Ending) (w':World):Prop:=∃q am nm cm av nv cv ak ns cs P',e=.returned (.agg #[iT q,.slice am nm cm,.slice av nv cv,.slice ak ns cs])∧fH w.heap.size R w' (.agg #[iT q,.slice am nm cm,.slice av nv cv,.slice ak ns cs])∧aT w' R a len cap P'∧P'≤P+d∧w.grownBy w' (some R)∧oy (.agg #[iT q,.slice am nm cm,.slice av nv cv,.slice ak ns cs])
theorem fH.low {v:Value} (h:fH lo R w v) (hl:lo'≤lo):fH lo' R w v:=by
 rcases h with h | h
 · obtain ⟨q,am,nm,cm,G,c,ak,ns,cs,gA,dA,e1,n1,d1,e2,n2,d2,M,A,B,C,S,e,hT,htb⟩:=h;exact .inl ⟨q,am,nm,cm,G,c,ak,ns,cs,gA,dA,e1,n1,d1,e2,n2,d2,M,A,B,C,S,e,hT.mono hl,htb⟩
 · exact .inr h
theorem tG (R P:Nat) (a:Option Addr) (len cap:Nat) (w:World) (h:aT w R a len cap P) (hlow:pY a len R) (hP:P<60000) :
 Calls Tryz.prog 78 #[.pointer (pT R)] w (At R a len cap P 7000 w):=by
 obtain ⟨Z,hZ⟩:=aI w.heap.size;obtain ⟨W,hW⟩:=aI (w.alloc (.cells #[iT 0,nZ,nZ,nZ] 31));have kW:Bl w W:=by rw [hW];exact bZ
 have br:ar W Z (iT 0) nZ nZ nZ∧an W Z 31 4:=by rw [hW,hZ];exact ⟨ar.new _ _ _ _ _ _,co w #[iT 0,nZ,nZ,nZ] 31⟩
 have hRw:=h.lt;have HZ:Hid (w.heap.size≤Z∧R<w.heap.size∧pY a len R):=⟨Nat.le_of_eq hZ.symm,hRw,hlow⟩;have HRD:Hid (aT W R a len cap P):=h.below kW;have HKW:Hid (Bl w W):=kW;have HBR:Hid (ar W Z (iT 0) nZ nZ nZ∧an W Z 31 4):=br;clear h hlow br kW hRw;go_enter Tryz.func78,Tryz.ntmps78
 go_wp2_with fail
 rw [← hW,← hZ];clear hW hZ;refine (tF R P a len cap W HRD.out HZ.out.2.2 hP).mono ?_;rintro e w1 ⟨v,P1,rfl,hg1,hR1,hP1,hG1,hs1⟩;obtain ⟨q,am,nm,cm,av,nv,cv,ak,ns,cs,rfl⟩:=hg1.val;have HG1:Hid (W.grownBy w1 (some R)):=hG1;have hne:Z≠R:=by have:=HZ.out;omega
 have HB1:Hid (ar w1 Z (iT 0) nZ nZ nZ∧an w1 Z 31 4):=⟨HBR.out.1.grownB hG1 hne,HBR.out.2.grown hG1 hne⟩;go_wp2_with fail
 refine (tH R P1 W.heap.size a len cap _ w1 hR1 HZ.out.2.2 (by omega) (by have:=HKW.out.size;have:=HZ.out;omega) hG1.size hg1).mono ?_;rintro e w2 ⟨v,P2,rfl,ha2,hR2,hP2,hG2,hs2⟩;have HSV:=hs2 hs1;clear hs2 hs1;obtain ⟨q,am,nm,cm,av,nv,cv,ak,ns,cs,rfl⟩:=ha2.val;have HSV:Hid (oy (.agg #[iT q,.slice am nm cm,.slice av nv cv,.slice ak ns cs])):=HSV;have HB2:Hid (ar w2 Z (iT 0) nZ nZ nZ∧an w2 Z 31 4):=⟨HB1.out.1.grownB hG2 hne,HB1.out.2.grown hG2 hne⟩;have HA2:Hid (fH W.heap.size R w2 (.agg #[iT q,.slice am nm cm,.slice av nv cv,.slice ak ns cs])):=ha2;have HY:Hid (aT w2 R a len cap P2∧w.grownBy w2 (some R)):=⟨hR2,ae (aF HKW.out) (ae HG1.out hG2)⟩;have HP2:P2≤P+7000:=by omega
 have r0:=HB2.out.1.c0;have r1:=HB2.out.1.c1;have r2:=HB2.out.1.c2;have r3:=HB2.out.1.c3;have rf:=HB2.out.1.fz;have rz:=HB2.out.1.lt;clear ha2 hR2 hG2 hg1 hR1 hG1 HB1 HG1 HBR HRD;go_wp2;refine bodyPost_ret (v:=.agg #[iT q,.slice am nm cm,.slice av nv cv,.slice ak ns cs]) ?_ rfl ⟨q,am,nm,cm,av,nv,cv,ak,ns,cs,P2,rfl,(HA2.out.four HB2.out.2 HB2.out.1).low HKW.out.size,?_,HP2,?_,HSV.out⟩
 · have e:=(((HB2.out.1.set0 (iT q)).set1 (.slice am nm cm)).set2 (.slice av nv cv)).set3 (.slice ak ns cs);simp [results,Tryz.results78,go_sem,e.c0,e.c1,e.c2,e.c3]
 · have hfar:∀b off,a=some ⟨b,off,none⟩→0<len→b≠Z:=fun b off e hl=>by
    have:=HZ.out;rcases this.2.2 with h0 | h0
    · omega
    · have:=h0 b off e;omega
   exact (((HY.out.1.other hne hfar _ _).other hne hfar _ _).other hne hfar _ _).other hne hfar _ _
 · have hle:w.heap.size≤Z:=HZ.out.1;exact aC (aC (aC (aC HY.out.2 hle (b6 _ _ _ _)) hle (b6 _ _ _ _)) hle (b6 _ _ _ _)) hle (b6 _ _ _ _)
def yn (w:World) (q:Int) (am:Option Addr) (nm cm:Nat) (av:Option Addr) (nv cv:Nat) (ak:Option Addr) (ns cs:Nat) (M:List ac) (V:List (List af)) (S:List Int):Prop:=(Lit.int .i64 q).wf=true∧aZ 0 w am nm cm av nv cv ak ns cs M V S∧uh w av V∧(∃g,ak=some ⟨g,0,none⟩)
theorem uh.keep (h:uh w av V) (hb:Bl w w'):uh w' av V:=fun i B hB=>by
 obtain ⟨b,e,n,c,h1,h2⟩:=h i B hB
 exact ⟨b,e,n,c,h1,cell_later hb h2⟩
theorem yn.keep (h:yn w q am nm cm av nv cv ak ns cs M V S) (hb:Bl w w'):yn w' q am nm cm av nv cv ak ns cs M V S:=⟨h.1,h.2.1.keep hb,h.2.2.1.keep hb,h.2.2.2⟩
def DrX (w:World) (e:Ending) (w':World):Prop:=∃q am nm cm av nv cv ak ns cs M V S,e=.returned (.agg #[iT q,.slice am nm cm,.slice av nv cv,.slice ak ns cs])∧yn w' q am nm cm av nv cv ak ns cs M V S∧Bl w w'
structure zm (w wi:World) (R X:Nat) (a:Option Addr) (len cap P:Nat):Prop where
 rd:aT wi R a len cap P
 low:pY a len R
 bx:ar wi X (iT 0) nZ nZ nZ
 kx:an wi X 31 4
 bl:Bl w wi
 top:w.heap.size≤X∧X<R
theorem zm.below (h:zm w wi R X a len cap P) (hb:Bl wi wj):zm w wj R X a len cap P :=
 ⟨h.rd.below hb,h.low,h.bx.keep hb,h.kx.below hb,h.bl.trans (hb.mono h.bl.size),h.top⟩
theorem zm.read {P':Nat} (h:zm w wi R X a len cap P) (hg:wi.grownBy wj (some R)) (hr:aT wj R a len cap P'):zm w wj R X a len cap P' :=
 have e:X≠R:=by have:=h.top;omega
 ⟨hr,h.low,h.bx.grownB hg e,h.kx.grown hg e,h.bl.grown hg h.bl.size (fun k e=>by cases e;have:=h.top;omega),h.top⟩
theorem sm {W:World} (kA:Bl w W) (hc3:len=0∨∃b off,a=some ⟨b,off,none⟩∧b<w.heap.size∧∀i,i<len→∃z:Nat,z≤255∧w.cell? ⟨b,off+i,none⟩=some (.int .u8 z)):len=0∨∃b off,a=some ⟨b,off,none⟩∧b<W.heap.size∧∀i,i<len→∃z:Nat,z≤255∧W.cell? ⟨b,off+i,none⟩=some (.int .u8 z):=by
 rcases hc3 with h0 | ⟨b,off,ha,hb1,hcc⟩
 · exact Or.inl h0
 · exact Or.inr ⟨b,off,ha,Nat.lt_of_lt_of_le hb1 kA.size,fun i hi=>by obtain ⟨z,hz,hzc⟩:=hcc i hi;exact ⟨z,hz,cell_later kA hzc⟩⟩
theorem xB {w1:World} (h:aT w1 R a len cap P) (hs:w1.heap.size=R+1):pY a len R:=by
 rcases h.bytes with h0 | ⟨b,off,ha,h1,h2,_⟩
 · exact Or.inl h0
 · exact Or.inr (fun b' off' e=>by rw [ha] at e;cases e;omega)
theorem fH.treX (h:fH lo R w (.agg #[iT q,.slice am nm cm,.slice av nv cv,.slice ak ns cs])) (hk:an w X 31 4) (hX:ar w X (iT 0) nZ nZ nZ) (hs:oy (.agg #[iT q,.slice am nm cm,.slice av nv cv,.slice ak ns cs])) (u0:Int) (a1 a2 a3:Option Addr) (m1 k1 m2 k2 m3 k3:Nat):∃M V S,yn ((((w.setCell ⟨X,0,none⟩ (iT u0)).setCell ⟨X,1,none⟩ (.slice a1 m1 k1)).setCell ⟨X,2,none⟩ (.slice a2 m2 k2)).setCell ⟨X,3,none⟩ (.slice a3 m3 k3)) q am nm cm av nv cv ak ns cs M V S:=by
 obtain ⟨q',am',nm',cm',av',nv',cv',ak',ns',cs',M,V,S,e,h1,h2,h3⟩:=(h.four hk hX).treeIn;cases e;obtain ⟨_,_,_,_,_,_,_,g3,_,_,e⟩:=hs;exact ⟨M,V,S,h1,h2,h3,⟨g3,by simp at e;simp [e]⟩⟩
theorem nY (a:Option Addr) (len cap:Nat) (w:World) (hb:jh w a len cap) :
 Calls Tryz.prog 34 #[.slice a len cap] w (DrX w):=by
 obtain ⟨X,hX⟩:=aI w.heap.size;obtain ⟨W,hW⟩:=aI (w.alloc (.cells #[iT 0,nZ,nZ,nZ] 31));have kW:Bl w W:=by rw [hW];exact bZ
 have br:ar W X (iT 0) nZ nZ nZ∧an W X 31 4:=by rw [hW,hX];exact ⟨ar.new _ _ _ _ _ _,co w #[iT 0,nZ,nZ,nZ] 31⟩
 obtain ⟨hc1,hc2,hc3⟩:=hb;have hc3':=sm kW hc3;have HK:Hid (w.heap.size≤X∧X<W.heap.size∧Bl w W):=⟨Nat.le_of_eq hX.symm,br.1.lt,kW⟩;have HB:Hid (ar W X (iT 0) nZ nZ nZ∧an W X 31 4):=br;clear br kW hc3;go_enter Tryz.func34,Tryz.ntmps34
 go_wp2_with fail
 rw [← hW];try rw [← hX]
 clear hW hX;refine (tE a len cap _ hc1 hc2 hc3').mono ?_;rintro e w1 ⟨len',rfl,hR1,hb1,hsz1⟩;obtain ⟨R,hR⟩:=aI W.heap.size;rw [← hR] at hR1 hsz1;rw [← hR];have S1:Hid (zm w w1 R X a len' cap 0):=⟨hR1,xB hR1 hsz1,HB.out.1.keep hb1,HB.out.2.below hb1,HK.out.2.2.trans (hb1.mono HK.out.2.2.size),HK.out.1,by rw [hR];exact HK.out.2.1⟩;clear hc1 hc2 hc3' hR1 hb1 hsz1 hR HK HB;go_wp2_with fail
 refine (tG R 0 a len' cap w1 S1.out.rd S1.out.low (by omega)).mono ?_;rintro e w2 ⟨q,am,nm,cm,av,nv,cv,ak,ns,cs,P2,rfl,hA2,hR2,hP2,hG2,hsv⟩;have HSV:Hid (oy (.agg #[iT q,.slice am nm cm,.slice av nv cv,.slice ak ns cs])):=hsv;have S2:Hid (zm w w2 R X a len' cap P2):=S1.out.read hG2 hR2;have HA2:Hid (fH w1.heap.size R w2 (.agg #[iT q,.slice am nm cm,.slice av nv cv,.slice ak ns cs])):=hA2;have HSZ:Hid (R<w1.heap.size∧w1.heap.size≤w2.heap.size):=⟨S1.out.rd.lt,hG2.size⟩;clear S1 hA2 hR2 hG2 hsv;have r0:=S2.out.bx.c0;have r1:=S2.out.bx.c1;have r2:=S2.out.bx.c2;have r3:=S2.out.bx.c3;have rf:=S2.out.bx.fz;have rz:=S2.out.bx.lt;go_wp2;obtain ⟨M,T,S,hT⟩:=HA2.out.treX S2.out.kx S2.out.bx HSV.out q am av ak nm cm nv cv ns cs;refine bodyPost_ret (v:=.agg #[iT q,.slice am nm cm,.slice av nv cv,.slice ak ns cs]) ?_ rfl ⟨q,am,nm,cm,av,nv,cv,ak,ns,cs,M,T,S,rfl,hT,((((S2.out.bl.setCell (p:=⟨X,0,none⟩) S2.out.top.1 _).setCell (p:=⟨X,1,none⟩) S2.out.top.1 _).setCell (p:=⟨X,2,none⟩) S2.out.top.1 _).setCell (p:=⟨X,3,none⟩) S2.out.top.1 _)⟩;have e:=(((S2.out.bx.set0 (iT q)).set1 (.slice am nm cm)).set2 (.slice av nv cv)).set3 (.slice ak ns cs);simp [results,Tryz.results34,go_sem,e.c0,e.c1,e.c2,e.c3]
theorem ly {hi hi':Nat} {gs bs:Nat→Nat} {es:Nat→Nat→Nat} (h:iO lo hi w am nm av nv ak ns M V S gs bs es) (hX:X<lo) (hl:lo'≤lo) (hh:hi≤hi') (u0 u1 u2 u3:Value):iO lo' hi' ((((w.setCell ⟨X,0,none⟩ u0).setCell ⟨X,1,none⟩ u1).setCell ⟨X,2,none⟩ u2).setCell ⟨X,3,none⟩ u3) am nm av nv ak ns M V S gs bs es:=by
 rcases h with ⟨b1,b2,b3,h1,h2,h3,h4⟩ | h
 · exact .inl ⟨b1,b2,b3,h1,h2,h3,fM h4 hX hl hh _ _ _ _⟩
 · exact .inr h
theorem oO  (sq:Int) (am:Option Addr) (nm cm b off cv:Nat) (ak:Option Addr) (nk ck:Nat) (a0:Option Addr) (n0 c0:Nat) (a1:Option Addr) (n1 c1:Nat) (a2:Option Addr) (n2 c2:Nat) (q2:Int) (M2:List ac) (A2 B2 C2:List af) (S2:List Int) (w:World) (hCS:∀w',Bl w w'→Calls Tryz.prog 86 #[.agg #[iT sq,.slice am nm cm,sO b off 3 cv,.slice ak nk ck]] w' fun e w''=>e=.returned (.tuple #[.agg #[iT sq,.slice am nm cm,.slice a0 n0 c0,.slice a1 n1 c1,.slice a2 n2 c2,.slice ak nk ck],.bool true])∧Bl w' w'') (hC:∀w',Bl w w'→Calls Tryz.prog 101 #[.agg #[iT sq,.slice am nm cm,.slice a0 n0 c0,.slice a1 n1 c1,.slice a2 n2 c2,.slice ak nk ck]] w' (yZ q2 M2 A2 B2 C2 S2 w')) (ho:mh M2 A2 B2 C2 S2) :
 Calls Tryz.prog 61 #[.agg #[iT sq,.slice am nm cm,sO b off 3 cv,.slice ak nk ck],.func (.func 101) #[] #[]] w (gq q2 M2 [A2,B2,C2] S2 true w):=by
 have HCS:=bQ hCS;obtain ⟨X,hX⟩:=aI w.heap.size;obtain ⟨W,hW⟩:=aI ((w.alloc (.cells #[iT sq,.slice am nm cm,sO b off 3 cv,.slice ak nk ck] 31)).alloc (.cells #[iT 0,nZ,nZ,nZ] 31));have kW:Bl w W:=by rw [hW];exact bZ.alloc (by simp) _
 have br:ar W (X+1) (iT 0) nZ nZ nZ:=by
  have:=ar.new (w.alloc (.cells #[iT sq,.slice am nm cm,sO b off 3 cv,.slice ak nk ck] 31)) 31 (iT 0) nZ nZ nZ;rw [World.size_alloc] at this;rw [hW,hX];exact this
 have HX:Hid (X=w.heap.size):=hX;have K0:Hid (Bl w W):=kW;have BR0:Hid (ar W (X+1) (iT 0) nZ nZ nZ):=br;have CSN:=bQ hC;have HO:=bQ ho;clear kW br hCS hC ho;go_enter Tryz.func61,Tryz.ntmps61
 go_wp2_with fail
 rw [← hX,← hW];clear hX hW;refine (HCS.out _ K0.out).mono ?_;rintro e w1 ⟨rfl,hb1⟩;obtain ⟨w2,hw2⟩:=aI (w1.alloc (.cells #[iT sq,.slice am nm cm,.slice a0 n0 c0,.slice a1 n1 c1,.slice a2 n2 c2,.slice ak nk ck] 82));have k2:Bl w1 w2:=by rw [hw2];exact bZ
 have K2:Hid (Bl w w2):=(K0.out.trans (hb1.mono K0.out.size)).trans (k2.mono (Nat.le_trans K0.out.size hb1.size));have BR2:Hid (ar w2 (X+1) (iT 0) nZ nZ nZ):=(BR0.out.keep hb1).keep k2;clear hb1 k2;go_wp2_with fail
 rw [← hw2];refine (CSN.out _ K2.out).mono ?_;rintro e w3 ⟨am2,nm2,cm2,a02,n02,c02,a12,n12,c12,a22,n22,c22,ak2,nk2,ck2,rfl,hI3,hb3⟩;obtain ⟨w4,hw4⟩:=aI (w3.alloc (.cells #[iT q2,.slice am2 nm2 cm2,.slice a02 n02 c02,.slice a12 n12 c12,.slice a22 n22 c22,.slice ak2 nk2 ck2] 82));have k4:Bl w3 w4:=by rw [hw4];exact bZ
 have K4:Hid (Bl w w4):=(K2.out.trans (hb3.mono K2.out.size)).trans (k4.mono (Nat.le_trans K2.out.size hb3.size));have BR4:Hid (ar w4 (X+1) (iT 0) nZ nZ nZ):=(BR2.out.keep hb3).keep k4;have HI4:Hid (kL w4 am2 nm2 cm2 a02 n02 c02 a12 n12 c12 a22 n22 c22 ak2 nk2 ck2 M2 A2 B2 C2 S2):=hI3.keep k4;clear hb3 k4 hI3 hw2;go_wp2_with fail
 rw [← hw4];clear hw4;refine (kH q2 _ _ _ _ _ _ _ _ _ _ _ _ _ _ _ M2 A2 B2 C2 S2 _ HI4.out HO.out).mono ?_;rintro e w5 ⟨eb,vb,sb,gs,bs,es,rfl,_,hO5,hb5⟩;have K5:Hid (Bl w w5):=K4.out.trans (hb5.mono K4.out.size);have HO5:Hid (ec w4.heap.size w5.heap.size w5 eb nm2 vb 3 sb nk2 M2 [A2,B2,C2] S2 gs bs es):=hO5;have r5:=(BR4.out.keep hb5);have HR5:Hid (ar w5 (X+1) (iT 0) nZ nZ nZ):=r5;have HXL:Hid (X+1<w4.heap.size):=BR4.out.lt;have d0:=r5.c0;have d1:=r5.c1;have d2:=r5.c2;have d3:=r5.c3;have df:=r5.fz;have dz:=r5.lt;clear hO5 hb5 r5;go_wp2;refine bodyPost_ret (v:=.tuple #[.agg #[iT q2,sL eb nm2 nm2,sL vb 3 3,sL sb nk2 nk2],.bool true]) ?_ rfl ⟨some ⟨eb,0,none⟩,nm2,some ⟨vb,0,none⟩,3,some ⟨sb,0,none⟩,nk2,gs,bs,es,rfl,.inl ⟨eb,vb,sb,rfl,rfl,rfl,?_⟩,?_⟩
 · have e:=(((HR5.out.set0 (iT q2)).set1 (sL eb nm2 nm2)).set2 (sL vb 3 3)).set3 (sL sb nk2 nk2);simp [results,Tryz.results61,go_sem,e.c0,e.c1,e.c2,e.c3]
 · exact fM HO5.out HXL.out K4.out.size (by simp [World.setCell]) _ _ _ _
 · have hx:w.heap.size≤X+1:=by have:=HX.out;omega
   exact gF K5.out hx _ _ _ _
theorem oQ  (sq:Int) (am:Option Addr) (nm cm b off cv:Nat) (ak:Option Addr) (nk ck:Nat) (a0:Option Addr) (n0 c0:Nat) (a1:Option Addr) (n1 c1:Nat) (a2:Option Addr) (n2 c2:Nat) (M:List ac) (A B C:List af) (S:List Int) (w:World) (hSh:kL w am nm cm a0 n0 c0 a1 n1 c1 a2 n2 c2 ak nk ck M A B C S) (hCS:∀w',Bl w w'→Calls Tryz.prog 86 #[.agg #[iT sq,.slice am nm cm,sO b off 3 cv,.slice ak nk ck]] w' fun e w''=>e=.returned (.tuple #[.agg #[iT sq,.slice am nm cm,.slice a0 n0 c0,.slice a1 n1 c1,.slice a2 n2 c2,.slice ak nk ck],.bool true])∧Bl w' w'') (hC:∀w',Bl w w'→Calls Tryz.prog 101 #[.agg #[iT sq,.slice am nm cm,.slice a0 n0 c0,.slice a1 n1 c1,.slice a2 n2 c2,.slice ak nk ck]] w' (wF w')) (ho:mh M A B C S) :
 Calls Tryz.prog 61 #[.agg #[iT sq,.slice am nm cm,sO b off 3 cv,.slice ak nk ck],.func (.func 101) #[] #[]] w (gq sq M [A,B,C] S false w):=by
 have HCS:=bQ hCS;obtain ⟨X,hX⟩:=aI w.heap.size;obtain ⟨W,hW⟩:=aI ((w.alloc (.cells #[iT sq,.slice am nm cm,sO b off 3 cv,.slice ak nk ck] 31)).alloc (.cells #[iT 0,nZ,nZ,nZ] 31));have kW:Bl w W:=by rw [hW];exact bZ.alloc (by simp) _
 have br:ar W (X+1) (iT 0) nZ nZ nZ:=by
  have:=ar.new (w.alloc (.cells #[iT sq,.slice am nm cm,sO b off 3 cv,.slice ak nk ck] 31)) 31 (iT 0) nZ nZ nZ;rw [World.size_alloc] at this;rw [hW,hX];exact this
 have HX:Hid (X=w.heap.size):=hX;have K0:Hid (Bl w W):=kW;have BR0:Hid (ar W (X+1) (iT 0) nZ nZ nZ):=br;have CSN:=bQ hC;have HO:=bQ ho;have HSI:=bQ hSh;clear kW br hCS hC ho hSh;go_enter Tryz.func61,Tryz.ntmps61
 go_wp2_with fail
 rw [← hX,← hW];clear hX hW;refine (HCS.out _ K0.out).mono ?_;rintro e w1 ⟨rfl,hb1⟩;obtain ⟨P1,hP1⟩:=aI w1.heap.size;obtain ⟨w2,hw2⟩:=aI (w1.alloc (.cells #[iT sq,.slice am nm cm,.slice a0 n0 c0,.slice a1 n1 c1,.slice a2 n2 c2,.slice ak nk ck] 82));have k2:Bl w1 w2:=by rw [hw2];exact bZ
 have K2:Hid (Bl w w2):=(K0.out.trans (hb1.mono K0.out.size)).trans (k2.mono (Nat.le_trans K0.out.size hb1.size));have BR2:Hid (ar w2 (X+1) (iT 0) nZ nZ nZ):=(BR0.out.keep hb1).keep k2;have BW2:Hid (bE w2 P1 (iT sq) (.slice am nm cm) (.slice a0 n0 c0) (.slice a1 n1 c1) (.slice a2 n2 c2) (.slice ak nk ck)):=by rw [hw2,hP1];exact bE.new _ _ _ _ _ _ _ _
 clear hb1 k2;go_wp2_with fail
 rw [← hw2];try rw [← hP1]
 clear hP1 hw2;refine (CSN.out _ K2.out).mono ?_;rintro e w3 ⟨q2,am2,nm2,cm2,a02,n02,c02,a12,n12,c12,a22,n22,c22,ak2,nk2,ck2,rfl,hb3⟩;have BW3:Hid (bE w3 P1 (iT sq) (.slice am nm cm) (.slice a0 n0 c0) (.slice a1 n1 c1) (.slice a2 n2 c2) (.slice ak nk ck)):=BW2.out.keep hb3;obtain ⟨P2,hP2⟩:=aI w3.heap.size;obtain ⟨wn,hwn⟩:=aI (w3.alloc (.cells #[iT q2,.slice am2 nm2 cm2,.slice a02 n02 c02,.slice a12 n12 c12,.slice a22 n22 c22,.slice ak2 nk2 ck2] 82));have kn:Bl w3 wn:=by rw [hwn];exact bZ
 have K3:Hid (Bl w w3):=K2.out.trans (hb3.mono K2.out.size);have Kn:Hid (Bl w wn):=K3.out.trans (kn.mono K3.out.size);have bwn:=BW3.out.keep kn;have bnn:bE wn P2 (iT q2) (.slice am2 nm2 cm2) (.slice a02 n02 c02) (.slice a12 n12 c12) (.slice a22 n22 c22) (.slice ak2 nk2 ck2):=by rw [hwn,hP2];exact bE.new _ _ _ _ _ _ _ _
 have hP2w:w.heap.size≤P2:=by rw [hP2];exact K3.out.size
 have rn:=(BR2.out.keep hb3).keep kn;have hrP:X+1≠P2:=by rw [hP2];have:=(BR2.out.keep hb3).lt;omega
 obtain ⟨w4,hw4⟩:=aI ((((((wn.setCell ⟨P2,0,none⟩ (iT sq)).setCell ⟨P2,1,none⟩ (.slice am nm cm)).setCell ⟨P2,2,none⟩ (.slice a0 n0 c0)).setCell ⟨P2,3,none⟩ (.slice a1 n1 c1)).setCell ⟨P2,4,none⟩ (.slice a2 n2 c2)).setCell ⟨P2,5,none⟩ (.slice ak nk ck));have K4:Hid (Bl w w4):=by
  rw [hw4];exact ((gF Kn.out hP2w _ _ _ _).setCell (p:=⟨P2,4,none⟩) hP2w _).setCell (p:=⟨P2,5,none⟩) hP2w _
 have BR4:Hid (ar w4 (X+1) (iT 0) nZ nZ nZ):=by
  rw [hw4];exact (((((rn.other (b':=P2) (o:=0) hrP.symm _).other (b':=P2) (o:=1) hrP.symm _).other (b':=P2) (o:=2) hrP.symm _).other (b':=P2) (o:=3) hrP.symm _).other (b':=P2) (o:=4) hrP.symm _).other (b':=P2) (o:=5) hrP.symm _
 have x0:=bwn.c0;have x1:=bwn.c1;have x2:=bwn.c2;have x3:=bwn.c3;have x4:=bwn.c4;have x5:=bwn.c5;have xz:=bwn.lt;have y0:=bnn.c0;have y1:=bnn.c1;have y2:=bnn.c2;have y3:=bnn.c3;have y4:=bnn.c4;have y5:=bnn.c5;have yf:=bnn.fz;have yz:=bnn.lt;have hne:P1≠P2:=by rw [hP2];have:=BW3.out.lt;omega
 clear hb3 kn rn bwn bnn hrP hP2w;go_upto_region 6 with fail
 rw [← hwn];try rw [← hP2]
 clear hwn hP2;go_wp2_with fail
 rw [← hw4];clear hw4 x0 x1 x2 x3 x4 x5 xz y0 y1 y2 y3 y4 y5 yf yz;refine (kH sq _ _ _ _ _ _ _ _ _ _ _ _ _ _ _ M A B C S _ (HSI.out.keep K4.out) HO.out).mono ?_;rintro e w5 ⟨eb,vb,sb,gs,bs,es,rfl,_,hO5,hb5⟩;have K5:Hid (Bl w w5):=K4.out.trans (hb5.mono K4.out.size);have HO5:Hid (ec w4.heap.size w5.heap.size w5 eb nm vb 3 sb nk M [A,B,C] S gs bs es):=hO5;have r5:=(BR4.out.keep hb5);have HR5:Hid (ar w5 (X+1) (iT 0) nZ nZ nZ):=r5;have HXL:Hid (X+1<w4.heap.size):=BR4.out.lt;have d0:=r5.c0;have d1:=r5.c1;have d2:=r5.c2;have d3:=r5.c3;have df:=r5.fz;have dz:=r5.lt;clear hO5 hb5 r5;go_wp2;refine bodyPost_ret (v:=.tuple #[.agg #[iT sq,sL eb nm nm,sL vb 3 3,sL sb nk nk],.bool false]) ?_ rfl ⟨some ⟨eb,0,none⟩,nm,some ⟨vb,0,none⟩,3,some ⟨sb,0,none⟩,nk,gs,bs,es,rfl,.inl ⟨eb,vb,sb,rfl,rfl,rfl,?_⟩,?_⟩
 · have e:=(((HR5.out.set0 (iT sq)).set1 (sL eb nm nm)).set2 (sL vb 3 3)).set3 (sL sb nk nk);simp [results,Tryz.results61,go_sem,e.c0,e.c1,e.c2,e.c3]
 · exact fM HO5.out HXL.out K4.out.size (by simp [World.setCell]) _ _ _ _
 · have hx:w.heap.size≤X+1:=by have:=HX.out;omega
   exact gF K5.out hx _ _ _ _
theorem s9 (lo:Nat) (q:Int) (am av ak:Option Addr) (nm cm nv cv ns cs:Nat) (M:List ac) (V:List (List af)) (S:List Int) (w:World) (hT:aZ lo w am nm cm av nv cv ak ns cs M V S) (htb:aW q M V S=false) :
 Calls Tryz.prog 36 #[.agg #[iT q,.slice am nm cm,.slice av nv cv,.slice ak ns cs]] w (uN w):=by
 obtain ⟨X,hX⟩:=aI w.heap.size;obtain ⟨W,hW⟩:=aI ((w.alloc (.cells #[iT q,.slice am nm cm,.slice av nv cv,.slice ak ns cs] 31)).alloc (.cells #[iT 0,nZ,nZ,nZ] 31));have kW:Bl w W:=by rw [hW];exact bZ.alloc (by simp) _
 have br:ar W (X+1) (iT 0) nZ nZ nZ:=by
  have:=ar.new (w.alloc (.cells #[iT q,.slice am nm cm,.slice av nv cv,.slice ak ns cs] 31)) 31 (iT 0) nZ nZ nZ;rw [World.size_alloc] at this;rw [hW,hX];exact this
 have HX:Hid (X=w.heap.size):=hX;have K0:Hid (Bl w W):=kW;have CO:Hid (∀w',Bl w w'→Calls Tryz.prog 27 #[.agg #[iT q,.slice am nm cm,.slice av nv cv,.slice ak ns cs]] w' fun e w''=>e=.returned (.bool false)∧Bl w' w''):=fun w' k=>by
  have:=gX lo q _ _ _ _ _ _ _ _ _ M V S w' (hT.keep k);rw [htb] at this;exact this
 clear hT kW htb;go_enter Tryz.func36,Tryz.ntmps36
 go_wp2_with fail
 rw [← hX,← hW];clear hX hW;refine (CO.out _ K0.out).mono ?_;rintro e w1 ⟨rfl,hb1⟩;have K1:Hid (Bl w w1):=K0.out.trans (hb1.mono K0.out.size);have br1:=br.keep hb1;have r0:=br1.c0;have r1:=br1.c1;have r2:=br1.c2;have r3:=br1.c3;have rf:=br1.fz;have rz:=br1.lt;clear hb1 br;go_wp2;refine bodyPost_ret (v:=.tuple #[.agg #[iT 0,nZ,nZ,nZ],.bool false]) ?_ rfl ⟨rfl,?_⟩
 · have e:=(((br1.set0 (iT 0)).set1 nZ).set2 nZ).set3 nZ;simp [results,Tryz.results36,go_sem,e.c0,e.c1,e.c2,e.c3]
 · have hx:w.heap.size≤X+1:=by have:=HX.out;omega
   exact gF K1.out hx _ _ _ _
theorem jL (q:Int) (am:Option Addr) (nm cm:Nat) (av:Option Addr) (nv cv:Nat) (ak:Option Addr) (nk ck:Nat) (q2:Int) (M2:List ac) (V2:List (List af)) (S2:List Int) (ok:Bool) (w:World)
 (hC:∀w',Bl w w'→Calls Tryz.prog 61 #[.agg #[iT q,.slice am nm cm,.slice av nv cv,.slice ak nk ck],.func (.func 101) #[] #[]] w' (gq q2 M2 V2 S2 ok w')) :
 Calls Tryz.prog 35 #[.agg #[iT q,.slice am nm cm,.slice av nv cv,.slice ak nk ck]] w (gq q2 M2 V2 S2 ok w):=by
 obtain ⟨X,hX⟩:=aI w.heap.size;obtain ⟨W,hW⟩:=aI ((w.alloc (.cells #[iT q,.slice am nm cm,.slice av nv cv,.slice ak nk ck] 31)).alloc (.cells #[iT 0,nZ,nZ,nZ] 31));have kW:Bl w W:=by rw [hW];exact (bZ.alloc (by simp;try omega) _)
 have br:ar W (X+1) (iT 0) nZ nZ nZ:=by
  have:=ar.new (w.alloc (.cells #[iT q,.slice am nm cm,.slice av nv cv,.slice ak nk ck] 31)) 31 (iT 0) nZ nZ nZ;simp only [World.size_alloc] at this;rw [hW,hX];exact this
 have HX:Hid (X=w.heap.size):=hX;have K0:Hid (Bl w W):=kW;have CT:Hid (Calls Tryz.prog 61 #[.agg #[iT q,.slice am nm cm,.slice av nv cv,.slice ak nk ck],.func (.func 101) #[] #[]] W (gq q2 M2 V2 S2 ok W)):=by
  try rw [hX]
  exact hC W kW
 have HXL:Hid (X+1<W.heap.size):=br.lt;clear kW hC;go_enter Tryz.func35,Tryz.ntmps35
 go_wp2_with fail
 rw [← hX,← hW];clear hX hW;refine CT.out.mono ?_;rintro e w1 ⟨a1,n1,a2,n2,a3,n3,gs,bs,es,rfl,hR1,hb1⟩;have K1:Hid (Bl w w1):=K0.out.trans (hb1.mono K0.out.size);have HR1:Hid (iO W.heap.size w1.heap.size w1 a1 n1 a2 n2 a3 n3 M2 V2 S2 gs bs es):=hR1;have br1:=br.keep hb1;have HB1:Hid (ar w1 (X+1) (iT 0) nZ nZ nZ):=br1;have r0:=br1.c0;have r1:=br1.c1;have r2:=br1.c2;have r3:=br1.c3;have rf:=br1.fz;have rz:=br1.lt;clear hb1 br hR1 CT br1;go_wp2;refine bodyPost_ret (v:=.tuple #[.agg #[iT q2,.slice a1 n1 n1,.slice a2 n2 n2,.slice a3 n3 n3],.bool ok]) ?_ rfl ⟨a1,n1,a2,n2,a3,n3,gs,bs,es,rfl,?_,?_⟩
 · have e:=(((HB1.out.set0 (iT q2)).set1 (.slice a1 n1 n1)).set2 (.slice a2 n2 n2)).set3 (.slice a3 n3 n3);simp [results,Tryz.results35,go_sem,e.c0,e.c1,e.c2,e.c3]
 · exact ly HR1.out HXL.out K0.out.size (by simp [World.setCell]) _ _ _ _
 · have hx:w.heap.size≤X+1:=by have:=HX.out;omega
   exact gF K1.out hx _ _ _ _
def ch (q:Int) (S:List Int):List Int:=if S.length<4∧q ∉ S then S++[q] else S
def dO (q:Int) (S:List Int):Bool:=decide (S.length<4) && !decide (q ∈ S)
theorem ul (q:Int) (am:Option Addr) (nm cm:Nat) (a0 a1 a2:Option Addr) (n0 c0 n1 c1 n2 c2 kb ko nk ck:Nat) (M:List ac) (A B C:List af) (S:List Int) (w:World) (hSh:kL w am nm cm a0 n0 c0 a1 n1 c1 a2 n2 c2 (some ⟨kb,ko,none⟩) nk ck M A B C S) (hn:nk≤1000) (hq:(Lit.int .i64 q).wf=true) :
 Calls Tryz.prog 101 #[.agg #[iT q,.slice am nm cm,.slice a0 n0 c0,.slice a1 n1 c1,.slice a2 n2 c2,sO kb ko nk ck]] w fun e w'=>(dO q S=true→yZ q M A B C (S++[q]) w e w')∧(dO q S=false→wF w e w'):=by
 refine (xN 0 q am nm cm a0 a1 a2 n0 c0 n1 c1 n2 c2 kb ko nk ck S w hSh.sn hn hq).mono ?_;rintro e w' ⟨g,c,rfl,hI,hb⟩;have hl:=hSh.sn.length;have hk:=hSh.keep hb;refine ⟨fun h=>⟨am,nm,cm,a0,n0,c0,a1,n1,c1,a2,n2,c2,some ⟨g,0,none⟩,nk+1,c,?_,⟨hk.mem,hk.r0,hk.r1,hk.r2,hI.lower (Nat.zero_le _)⟩,hb⟩,fun h=>⟨q,am,nm,cm,a0,n0,c0,a1,n1,c1,a2,n2,c2,some ⟨g,0,none⟩,nk+1,c,?_,hb⟩⟩
 · unfold dO at h;rw [hl] at h;rw [h]
 · unfold dO at h;rw [hl] at h;rw [h]
theorem ub {k t:ByteArray} {d n:Int} (h:cK k q d t n=true):k.size≤281474976710656∧t.size≤281474976710656:=by
 simp [cK,eV] at h;omega
theorem po {L:List ac} (h:aL L=true):oz L:=fun e he=>by
 obtain ⟨j,hj,rfl⟩:=List.getElem_of_mem he
 exact ub (fc h (List.getElem?_eq_getElem hj))
theorem sw {Z:List af} (h:ee Z=false):∀r ∈ Z,dl r.1 r.2=true:=fun r hr=>by simpa using cP h r hr
theorem mY {A B C:List af} (h:aW q M [A,B,C] S=true):mh M A B C S:=by
 obtain ⟨_,_,h3,h4,_,h6,⟨ha,hb,hc⟩,_⟩:=dr.1 h;rw [cL] at ha hb hc;have hS:=(fb.1 h6).1;have hr:∀{Z:List af} {n:Int},(Z.length:Int)≤n→n≤8→ee Z=false→iM Z∧f9 Z:=fun {Z n} hl hn hz =>
  ⟨⟨by omega,fun p hp=>by have:=(bu (sw hz p hp)).2.1;omega⟩,fun p hp=>po (bu (sw hz p hp)).2.2.1⟩
 have rA:=hr ha.1 (by omega) ha.2.1;have rB:=hr hb.1 (by omega) hb.2.1;have rC:=hr hc.1 (by omega) hc.2.1;exact ⟨by omega,by omega,po h4,rA.1,rB.1,rC.1,rA.2,rB.2,rC.2⟩
theorem iy (h:aW q M V S=true):0≤q∧q≤100000∧M.length≤60∧aL M=true∧S.length≤4∧V.length=3:=by
 obtain ⟨A,B,C,rfl⟩:=gw h;obtain ⟨h1,h2,h3,h4,_,h6,_⟩:=dr.1 h;exact ⟨h1,h2,h3,h4,(fb.1 h6).1,rfl⟩
theorem jd (q:Int) (am:Option Addr) (nm cm:Nat) (av:Option Addr) (nv cv gk ns cs:Nat) (M:List ac) (V:List (List af)) (S:List Int) (w:World) (hq:(Lit.int .i64 q).wf=true) (hT:aZ 0 w am nm cm av nv cv (pT gk) ns cs M V S) (htb:aW q M V S=true) :
 Calls Tryz.prog 35 #[.agg #[iT q,.slice am nm cm,.slice av nv cv,sL gk ns cs]] w (gq q M V (ch q S) (dO q S) w):=by
 have hd:dO q S=decide (S.length<4∧q ∉ S):=by unfold dO;simp
 have hf:=iy htb;have hsl:=hT.snaps.length;refine jL q am nm cm av nv cv _ ns cs q M V (ch q S) (dO q S) w (fun w2 k2=>?_);obtain ⟨b',off,A,B,C,a0,n0,c0,a1,n1,c1,a2,n2,c2,rfl,rfl,rfl,hsh,hCS⟩:=(hT.keep k2).share htb;have hout:=mY htb;by_cases h:S.length<4∧q ∉ S
 · have ho:dO q S=true:=by rw [hd,decide_eq_true h]
   have hl:ch q S=S++[q]:=by unfold ch;rw [if_pos h]
   rw [ho,hl];have hout2:mh M A B C (S++[q]):=⟨hout.bm,by rw [List.length_append];have:=h.1;simp;omega,hout.em,hout.b0,hout.b1,hout.b2,hout.e0,hout.e1,hout.e2⟩;exact oO q am nm cm b' off cv _ ns cs a0 n0 c0 a1 n1 c1 a2 n2 c2 q M A B C (S++[q]) w2 hCS (fun w3 k3=>(ul q am nm cm a0 a1 a2 n0 c0 n1 c1 n2 c2 gk 0 ns cs M A B C S w3 (hsh.keep k3) (by omega) hq).mono (fun e w4 h4=>h4.1 ho)) hout2
 · have ho:dO q S=false:=by rw [hd,decide_eq_false h]
   have hl:ch q S=S:=by unfold ch;rw [if_neg h]
   rw [ho,hl];exact oQ q am nm cm b' off cv _ ns cs a0 n0 c0 a1 n1 c1 a2 n2 c2 M A B C S w2 hsh hCS (fun w3 k3=>(ul q am nm cm a0 a1 a2 n0 c0 n1 c1 n2 c2 gk 0 ns cs M A B C S w3 (hsh.keep k3) (by omega) hq).mono (fun e w4 h4=>h4.2 ho)) hout
theorem uY (q:Int) (am:Option Addr) (nm cm:Nat) (av:Option Addr) (nv cv:Nat) (ak:Option Addr) (ns cs:Nat) (M:List ac) (V:List (List af)) (S:List Int) (w:World) (hq:(Lit.int .i64 q).wf=true) (hT:aZ 0 w am nm cm av nv cv ak ns cs M V S) (htb:aW q M V S=true) :
 Calls Tryz.prog 36 #[.agg #[iT q,.slice am nm cm,.slice av nv cv,.slice ak ns cs]] w (ui q M V (ch q S) (dO q S) w):=by
 have hd:dO q S=decide (S.length<4∧q ∉ S):=by unfold dO;simp
 have hl:=hT.snaps.length;refine (o7 0 q am nm cm av nv cv ak ns cs M V S w hT hq htb).mono ?_;rintro e w'' ⟨h1,h2⟩;by_cases h:S.length<4∧q ∉ S
 · rw [hd,decide_eq_true h];unfold ch;rw [if_pos h];obtain ⟨_,_,_,_,_,_,he,hc,hb⟩:=h1 (by rw [← hl];exact h);exact pP he hc hb
 · rw [hd,decide_eq_false h];unfold ch;rw [if_neg h];obtain ⟨_,_,_,_,_,_,he,hc,hb⟩:=h2 (by rw [← hl];exact h);exact pP he hc hb
theorem tQ (q:Int) (am:Option Addr) (nm cm:Nat) (av:Option Addr) (nv cv:Nat) (ak:Option Addr) (ns cs:Nat) (M:List ac) (V:List (List af)) (S:List Int) (w:World) (hT:aZ 0 w am nm cm av nv cv ak ns cs M V S) (htb:aW q M V S=false) :
 Calls Tryz.prog 35 #[.agg #[iT q,.slice am nm cm,.slice av nv cv,.slice ak ns cs]] w (gq 0 [] [] [] false w) :=
 jL q _ _ _ _ _ _ _ _ _ 0 [] [] [] false w (fun w2 k2=>(wO 0 q _ _ _ _ _ _ _ _ _ _ M V S w2 (hT.keep k2) htb).mono (fun _ _ h=>vN h))
end Go.Proofs.YtpobkmjicbobdaaGreat
