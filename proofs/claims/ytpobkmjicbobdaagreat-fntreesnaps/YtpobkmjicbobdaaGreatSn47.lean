/- Walks. -/
import Derived.Test.YtpobkmjicbobdaaGreatSn22
namespace Go.Proofs.YtpobkmjicbobdaaGreat
set_option maxRecDepth 100000
set_option maxHeartbeats 40000000
open Go.RowKit
theorem oP (cb1:Nat)  (sq:Int) (am:Option Addr) (nm cm b off cv:Nat) (ak:Option Addr) (nk ck:Nat) (a0:Option Addr) (n0 c0:Nat) (a1:Option Addr) (n1 c1:Nat) (a2:Option Addr) (n2 c2:Nat) (q2:Int) (M2:List ac) (A2 B2 C2:List af) (S2:List Int) (w:World) (hCS:∀w',Bl w w'→Calls Tryz.prog 86 #[.agg #[iT sq,.slice am nm cm,sO b off 3 cv,.slice ak nk ck]] w' fun e w''=>e=.returned (.tuple #[.agg #[iT sq,.slice am nm cm,.slice a0 n0 c0,.slice a1 n1 c1,.slice a2 n2 c2,.slice ak nk ck],.bool true])∧Bl w' w'') (hC:∀w',Bl w w'→Calls Tryz.prog 103 #[.agg #[iT sq,.slice am nm cm,.slice a0 n0 c0,.slice a1 n1 c1,.slice a2 n2 c2,.slice ak nk ck],.pointer (pT cb1)] w' (yZ q2 M2 A2 B2 C2 S2 w')) (ho:mh M2 A2 B2 C2 S2) :
 Calls Tryz.prog 61 #[.agg #[iT sq,.slice am nm cm,sO b off 3 cv,.slice ak nk ck],.func (.func 103) #[] #[.pointer (pT cb1)]] w (gq q2 M2 [A2,B2,C2] S2 true w):=by
 have HCS:=bQ hCS;obtain ⟨X,hX⟩:=aI w.heap.size;obtain ⟨W,hW⟩:=aI ((w.alloc (.cells #[iT sq,.slice am nm cm,sO b off 3 cv,.slice ak nk ck] 31)).alloc (.cells #[iT 0,nZ,nZ,nZ] 31));have kW:Bl w W:=by rw [hW];exact bZ.alloc (by simp) _
 have br:ar W (X+1) (iT 0) nZ nZ nZ:=by
  have:=ar.new (w.alloc (.cells #[iT sq,.slice am nm cm,sO b off 3 cv,.slice ak nk ck] 31)) 31 (iT 0) nZ nZ nZ;rw [World.size_alloc] at this;rw [hW,hX];exact this
 have HX:Hid (X=w.heap.size):=hX;have K0:Hid (Bl w W):=kW;have BR0:Hid (ar W (X+1) (iT 0) nZ nZ nZ):=br;have CSN:=bQ hC;have HO:=bQ ho;clear kW br hCS hC ho;go_enter Tryz.func61,Tryz.ntmps61
 go_wp2_with fail
 rw [← hX,← hW];clear hX hW;refine (HCS.out _ K0.out).mono ?_;rintro e w1 ⟨rfl,hb1⟩;obtain ⟨w2,hw2⟩:=aI (w1.alloc (.cells #[iT sq,.slice am nm cm,.slice a0 n0 c0,.slice a1 n1 c1,.slice a2 n2 c2,.slice ak nk ck] 82));have k2:Bl w1 w2:=by rw [hw2];exact bZ
 have K2:Hid (Bl w w2):=(K0.out.trans (hb1.mono K0.out.size)).trans (k2.mono (Nat.le_trans K0.out.size hb1.size));have BR2:Hid (ar w2 (X+1) (iT 0) nZ nZ nZ):=(BR0.out.keep hb1).keep k2;clear hb1 k2;go_wp2_with fail
 rw [← hw2];refine (CSN.out _ K2.out).mono ?_;rintro e w3 ⟨am2,nm2,cm2,a02,n02,c02,a12,n12,c12,a22,n22,c22,ak2,nk2,ck2,rfl,hI3,hb3⟩;obtain ⟨w4,hw4⟩:=aI (w3.alloc (.cells #[iT q2,.slice am2 nm2 cm2,.slice a02 n02 c02,.slice a12 n12 c12,.slice a22 n22 c22,.slice ak2 nk2 ck2] 82));have k4:Bl w3 w4:=by rw [hw4];exact bZ
 have K4:Hid (Bl w w4):=(K2.out.trans (hb3.mono K2.out.size)).trans (k4.mono (Nat.le_trans K2.out.size hb3.size));have BR4:Hid (ar w4 (X+1) (iT 0) nZ nZ nZ):=(BR2.out.keep hb3).keep k4;have HI4:Hid (kL w4 am2 nm2 cm2 a02 n02 c02 a12 n12 c12 a22 n22 c22 ak2 nk2 ck2 M2 A2 B2 C2 S2):=hI3.keep k4;clear hb3 k4 hI3 hw2;go_wp2_with fail
 rw [← hw4];clear hw4;refine (kH q2 _ _ _ _ _ _ _ _ _ _ _ _ _ _ _ M2 A2 B2 C2 S2 _ HI4.out HO.out).mono ?_;rintro e w5 ⟨eb,vb,sb,gs,bs,es,rfl,_,hO5,hb5⟩;have K5:Hid (Bl w w5):=K4.out.trans (hb5.mono K4.out.size);have HO5:Hid (ec w4.heap.size w5.heap.size w5 eb nm2 vb 3 sb nk2 M2 [A2,B2,C2] S2 gs bs es):=hO5;have r5:=(BR4.out.keep hb5);have HR5:Hid (ar w5 (X+1) (iT 0) nZ nZ nZ):=r5;have HXL:Hid (X+1<w4.heap.size):=BR4.out.lt;have d0:=r5.c0;have d1:=r5.c1;have d2:=r5.c2;have d3:=r5.c3;have df:=r5.fz;have dz:=r5.lt;clear hO5 hb5 r5;go_wp2;refine bodyPost_ret (v:=.tuple #[.agg #[iT q2,sL eb nm2 nm2,sL vb 3 3,sL sb nk2 nk2],.bool true]) ?_ rfl ⟨some ⟨eb,0,none⟩,nm2,some ⟨vb,0,none⟩,3,some ⟨sb,0,none⟩,nk2,gs,bs,es,rfl,.inl ⟨eb,vb,sb,rfl,rfl,rfl,?_⟩,?_⟩
 · have e:=(((HR5.out.set0 (iT q2)).set1 (sL eb nm2 nm2)).set2 (sL vb 3 3)).set3 (sL sb nk2 nk2);simp [results,Tryz.results61,go_sem,e.c0,e.c1,e.c2,e.c3]
 · exact fM HO5.out HXL.out K4.out.size (by simp [World.setCell]) _ _ _ _
 · have hx:w.heap.size≤X+1:=by have:=HX.out;omega
   exact gF K5.out hx _ _ _ _
theorem oR (cb1:Nat)  (sq:Int) (am:Option Addr) (nm cm b off cv:Nat) (ak:Option Addr) (nk ck:Nat) (a0:Option Addr) (n0 c0:Nat) (a1:Option Addr) (n1 c1:Nat) (a2:Option Addr) (n2 c2:Nat) (M:List ac) (A B C:List af) (S:List Int) (w:World) (hSh:kL w am nm cm a0 n0 c0 a1 n1 c1 a2 n2 c2 ak nk ck M A B C S) (hCS:∀w',Bl w w'→Calls Tryz.prog 86 #[.agg #[iT sq,.slice am nm cm,sO b off 3 cv,.slice ak nk ck]] w' fun e w''=>e=.returned (.tuple #[.agg #[iT sq,.slice am nm cm,.slice a0 n0 c0,.slice a1 n1 c1,.slice a2 n2 c2,.slice ak nk ck],.bool true])∧Bl w' w'') (hC:∀w',Bl w w'→Calls Tryz.prog 103 #[.agg #[iT sq,.slice am nm cm,.slice a0 n0 c0,.slice a1 n1 c1,.slice a2 n2 c2,.slice ak nk ck],.pointer (pT cb1)] w' (wF w')) (ho:mh M A B C S) :
 Calls Tryz.prog 61 #[.agg #[iT sq,.slice am nm cm,sO b off 3 cv,.slice ak nk ck],.func (.func 103) #[] #[.pointer (pT cb1)]] w (gq sq M [A,B,C] S false w):=by
 have HCS:=bQ hCS;obtain ⟨X,hX⟩:=aI w.heap.size;obtain ⟨W,hW⟩:=aI ((w.alloc (.cells #[iT sq,.slice am nm cm,sO b off 3 cv,.slice ak nk ck] 31)).alloc (.cells #[iT 0,nZ,nZ,nZ] 31));have kW:Bl w W:=by rw [hW];exact bZ.alloc (by simp) _
 have br:ar W (X+1) (iT 0) nZ nZ nZ:=by
  have:=ar.new (w.alloc (.cells #[iT sq,.slice am nm cm,sO b off 3 cv,.slice ak nk ck] 31)) 31 (iT 0) nZ nZ nZ;rw [World.size_alloc] at this;rw [hW,hX];exact this
 have HX:Hid (X=w.heap.size):=hX;have K0:Hid (Bl w W):=kW;have BR0:Hid (ar W (X+1) (iT 0) nZ nZ nZ):=br;have CSN:=bQ hC;have HO:=bQ ho;have HSI:=bQ hSh;clear kW br hCS hC ho hSh;go_enter Tryz.func61,Tryz.ntmps61
 go_wp2_with fail
 rw [← hX,← hW];clear hX hW;refine (HCS.out _ K0.out).mono ?_;rintro e w1 ⟨rfl,hb1⟩;obtain ⟨P1,hP1⟩:=aI w1.heap.size;obtain ⟨w2,hw2⟩:=aI (w1.alloc (.cells #[iT sq,.slice am nm cm,.slice a0 n0 c0,.slice a1 n1 c1,.slice a2 n2 c2,.slice ak nk ck] 82));have k2:Bl w1 w2:=by rw [hw2];exact bZ
 have K2:Hid (Bl w w2):=(K0.out.trans (hb1.mono K0.out.size)).trans (k2.mono (Nat.le_trans K0.out.size hb1.size));have BR2:Hid (ar w2 (X+1) (iT 0) nZ nZ nZ):=(BR0.out.keep hb1).keep k2;have BW2:Hid (bE w2 P1 (iT sq) (.slice am nm cm) (.slice a0 n0 c0) (.slice a1 n1 c1) (.slice a2 n2 c2) (.slice ak nk ck)):=by rw [hw2,hP1];exact bE.new _ _ _ _ _ _ _ _
 clear hb1 k2;go_wp2_with fail
 rw [← hw2];try rw [← hP1]
 clear hP1 hw2;refine (CSN.out _ K2.out).mono ?_;rintro e w3 ⟨q2,am2,nm2,cm2,a02,n02,c02,a12,n12,c12,a22,n22,c22,ak2,nk2,ck2,rfl,hb3⟩;have BW3:Hid (bE w3 P1 (iT sq) (.slice am nm cm) (.slice a0 n0 c0) (.slice a1 n1 c1) (.slice a2 n2 c2) (.slice ak nk ck)):=BW2.out.keep hb3;obtain ⟨P2,hP2⟩:=aI w3.heap.size;obtain ⟨wn,hwn⟩:=aI (w3.alloc (.cells #[iT q2,.slice am2 nm2 cm2,.slice a02 n02 c02,.slice a12 n12 c12,.slice a22 n22 c22,.slice ak2 nk2 ck2] 82));have kn:Bl w3 wn:=by rw [hwn];exact bZ
 have K3:Hid (Bl w w3):=K2.out.trans (hb3.mono K2.out.size);have Kn:Hid (Bl w wn):=K3.out.trans (kn.mono K3.out.size);have bwn:=BW3.out.keep kn;have bnn:bE wn P2 (iT q2) (.slice am2 nm2 cm2) (.slice a02 n02 c02) (.slice a12 n12 c12) (.slice a22 n22 c22) (.slice ak2 nk2 ck2):=by rw [hwn,hP2];exact bE.new _ _ _ _ _ _ _ _
 have hP2w:w.heap.size≤P2:=by rw [hP2];exact K3.out.size
 have rn:=(BR2.out.keep hb3).keep kn;have hrP:X+1≠P2:=by rw [hP2];have:=(BR2.out.keep hb3).lt;omega
 obtain ⟨w4,hw4⟩:=aI ((((((wn.setCell ⟨P2,0,none⟩ (iT sq)).setCell ⟨P2,1,none⟩ (.slice am nm cm)).setCell ⟨P2,2,none⟩ (.slice a0 n0 c0)).setCell ⟨P2,3,none⟩ (.slice a1 n1 c1)).setCell ⟨P2,4,none⟩ (.slice a2 n2 c2)).setCell ⟨P2,5,none⟩ (.slice ak nk ck));have K4:Hid (Bl w w4):=by
  rw [hw4];exact ((gF Kn.out hP2w _ _ _ _).setCell (p:=⟨P2,4,none⟩) hP2w _).setCell (p:=⟨P2,5,none⟩) hP2w _
 have BR4:Hid (ar w4 (X+1) (iT 0) nZ nZ nZ):=by
  rw [hw4];exact (((((rn.other (b':=P2) (o:=0) hrP.symm _).other (b':=P2) (o:=1) hrP.symm _).other (b':=P2) (o:=2) hrP.symm _).other (b':=P2) (o:=3) hrP.symm _).other (b':=P2) (o:=4) hrP.symm _).other (b':=P2) (o:=5) hrP.symm _
 have x0:=bwn.c0;have x1:=bwn.c1;have x2:=bwn.c2;have x3:=bwn.c3;have x4:=bwn.c4;have x5:=bwn.c5;have xz:=bwn.lt;have y0:=bnn.c0;have y1:=bnn.c1;have y2:=bnn.c2;have y3:=bnn.c3;have y4:=bnn.c4;have y5:=bnn.c5;have yf:=bnn.fz;have yz:=bnn.lt;have hne:P1≠P2:=by rw [hP2];have:=BW3.out.lt;omega
 clear hb3 kn rn bwn bnn hrP hP2w;go_upto_region 6 with fail
 rw [← hwn];try rw [← hP2]
 clear hwn hP2;go_wp2_with fail
 rw [← hw4];clear hw4 x0 x1 x2 x3 x4 x5 xz y0 y1 y2 y3 y4 y5 yf yz;refine (kH sq _ _ _ _ _ _ _ _ _ _ _ _ _ _ _ M A B C S _ (HSI.out.keep K4.out) HO.out).mono ?_;rintro e w5 ⟨eb,vb,sb,gs,bs,es,rfl,_,hO5,hb5⟩;have K5:Hid (Bl w w5):=K4.out.trans (hb5.mono K4.out.size);have HO5:Hid (ec w4.heap.size w5.heap.size w5 eb nm vb 3 sb nk M [A,B,C] S gs bs es):=hO5;have r5:=(BR4.out.keep hb5);have HR5:Hid (ar w5 (X+1) (iT 0) nZ nZ nZ):=r5;have HXL:Hid (X+1<w4.heap.size):=BR4.out.lt;have d0:=r5.c0;have d1:=r5.c1;have d2:=r5.c2;have d3:=r5.c3;have df:=r5.fz;have dz:=r5.lt;clear hO5 hb5 r5;go_wp2;refine bodyPost_ret (v:=.tuple #[.agg #[iT sq,sL eb nm nm,sL vb 3 3,sL sb nk nk],.bool false]) ?_ rfl ⟨some ⟨eb,0,none⟩,nm,some ⟨vb,0,none⟩,3,some ⟨sb,0,none⟩,nk,gs,bs,es,rfl,.inl ⟨eb,vb,sb,rfl,rfl,rfl,?_⟩,?_⟩
 · have e:=(((HR5.out.set0 (iT sq)).set1 (sL eb nm nm)).set2 (sL vb 3 3)).set3 (sL sb nk nk);simp [results,Tryz.results61,go_sem,e.c0,e.c1,e.c2,e.c3]
 · exact fM HO5.out HXL.out K4.out.size (by simp [World.setCell]) _ _ _ _
 · have hx:w.heap.size≤X+1:=by have:=HX.out;omega
   exact gF K5.out hx _ _ _ _
end Go.Proofs.YtpobkmjicbobdaaGreat
