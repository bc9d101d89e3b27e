/-
  The program's turned at Compact: what it answers at a right tree, by a walk of its Go text.
-/
import Derived.Test.YtlmgojlffgkciaaGreatTc30
import Derived.Test.YtlmgojlffgkciaaGreatTc26
import Derived.Test.YtlmgojlffgkciaaGreatTc00
namespace Go.Proofs.YtlmgojlffgkciaaGreat
open Go.RowKit
set_option maxRecDepth 100000
set_option maxHeartbeats 8000000
theorem lV (cb1:Nat) (cb2:Nat)  (sq:Int) (am:Option Addr) (nm cm b off cv:Nat) (ak:Option Addr) (nk ck:Nat) (a0:Option Addr) (n0 c0:Nat) (a1:Option Addr) (n1 c1:Nat) (a2:Option Addr) (n2 c2:Nat) (q2:Int) (M2:List ac) (A2 B2 C2:List ae) (S2:List Int) (w:World) (hCS:∀w',Bl w w'→Calls Tryz.prog 53 #[.agg #[iT sq,.slice am nm cm,sO b off 3 cv,.slice ak nk ck]] w' fun e w''=>e=.returned (.tuple #[.agg #[iT sq,.slice am nm cm,.slice a0 n0 c0,.slice a1 n1 c1,.slice a2 n2 c2,.slice ak nk ck],.bool true])∧Bl w' w'') (hC:∀w',Bl w w'→Calls Tryz.prog 65 #[.agg #[iT sq,.slice am nm cm,.slice a0 n0 c0,.slice a1 n1 c1,.slice a2 n2 c2,.slice ak nk ck],.pointer (pT cb1),.pointer (pT cb2)] w' (B6 q2 M2 A2 B2 C2 S2 w')) (ho:wQ M2 A2 B2 C2 S2) :
 Calls Tryz.prog 42 #[.agg #[iT sq,.slice am nm cm,sO b off 3 cv,.slice ak nk ck],.func (.func 65) #[] #[.pointer (pT cb1),.pointer (pT cb2)]] w (m9 q2 M2 [A2,B2,C2] S2 true w):=by
 have HCS:=bc hCS;obtain ⟨X,hX⟩:=ay w.heap.size;obtain ⟨W,hW⟩:=ay ((w.alloc (.cells #[iT sq,.slice am nm cm,sO b off 3 cv,.slice ak nk ck] 31)).alloc (.cells #[iT 0,nZ,nZ,nZ] 31));have kW:Bl w W:=by rw [hW];exact bZ.alloc (by simp) _
 have br:aF W (X+1) (iT 0) nZ nZ nZ:=by
  have:=aF.new (w.alloc (.cells #[iT sq,.slice am nm cm,sO b off 3 cv,.slice ak nk ck] 31)) 31 (iT 0) nZ nZ nZ;rw [World.size_alloc] at this;rw [hW,hX];exact this
 have HX:Hid (X=w.heap.size):=hX;have K0:Hid (Bl w W):=kW;have BR0:Hid (aF W (X+1) (iT 0) nZ nZ nZ):=br;have CSN:=bc hC;have HO:=bc ho;clear kW br hCS hC ho;go_enter Tryz.func42,Tryz.ntmps42
 go_wp2_with fail
 rw [← hX,← hW];clear hX hW;refine (HCS.out _ K0.out).mono ?_;rintro e w1 ⟨rfl,hb1⟩;obtain ⟨w2,hw2⟩:=ay (w1.alloc (.cells #[iT sq,.slice am nm cm,.slice a0 n0 c0,.slice a1 n1 c1,.slice a2 n2 c2,.slice ak nk ck] 67));have k2:Bl w1 w2:=by rw [hw2];exact bZ
 have K2:Hid (Bl w w2):=(K0.out.trans (hb1.mono K0.out.size)).trans (k2.mono (Nat.le_trans K0.out.size hb1.size));have BR2:Hid (aF w2 (X+1) (iT 0) nZ nZ nZ):=(BR0.out.keep hb1).keep k2;clear hb1 k2;go_wp2_with fail
 rw [← hw2];refine (CSN.out _ K2.out).mono ?_;rintro e w3 ⟨am2,nm2,cm2,a02,n02,c02,a12,n12,c12,a22,n22,c22,ak2,nk2,ck2,rfl,hI3,hb3⟩;obtain ⟨w4,hw4⟩:=ay (w3.alloc (.cells #[iT q2,.slice am2 nm2 cm2,.slice a02 n02 c02,.slice a12 n12 c12,.slice a22 n22 c22,.slice ak2 nk2 ck2] 67));have k4:Bl w3 w4:=by rw [hw4];exact bZ
 have K4:Hid (Bl w w4):=(K2.out.trans (hb3.mono K2.out.size)).trans (k4.mono (Nat.le_trans K2.out.size hb3.size));have BR4:Hid (aF w4 (X+1) (iT 0) nZ nZ nZ):=(BR2.out.keep hb3).keep k4;have HI4:Hid (ps w4 am2 nm2 cm2 a02 n02 c02 a12 n12 c12 a22 n22 c22 ak2 nk2 ck2 M2 A2 B2 C2 S2):=hI3.keep k4;clear hb3 k4 hI3 hw2;go_wp2_with fail
 rw [← hw4];clear hw4;refine (tY q2 _ _ _ _ _ _ _ _ _ _ _ _ _ _ _ M2 A2 B2 C2 S2 _ HI4.out HO.out).mono ?_;rintro e w5 ⟨eb,vb,sb,gs,bs,es,rfl,_,hO5,hb5⟩;have K5:Hid (Bl w w5):=K4.out.trans (hb5.mono K4.out.size);have HO5:Hid (dP w4.heap.size w5.heap.size w5 eb nm2 vb 3 sb nk2 M2 [A2,B2,C2] S2 gs bs es):=hO5;have r5:=(BR4.out.keep hb5);have HR5:Hid (aF w5 (X+1) (iT 0) nZ nZ nZ):=r5;have HXL:Hid (X+1<w4.heap.size):=BR4.out.lt;have d0:=r5.c0;have d1:=r5.c1;have d2:=r5.c2;have d3:=r5.c3;have df:=r5.fz;have dz:=r5.lt;clear hO5 hb5 r5;go_wp2;refine bodyPost_ret (v:=.tuple #[.agg #[iT q2,sL eb nm2 nm2,sL vb 3 3,sL sb nk2 nk2],.bool true]) ?_ rfl ⟨some ⟨eb,0,none⟩,nm2,some ⟨vb,0,none⟩,3,some ⟨sb,0,none⟩,nk2,gs,bs,es,rfl,.inl ⟨eb,vb,sb,rfl,rfl,rfl,?_⟩,?_⟩
 · have e:=(((HR5.out.set0 (iT q2)).set1 (sL eb nm2 nm2)).set2 (sL vb 3 3)).set3 (sL sb nk2 nk2);simp [results,Tryz.results42,go_sem,e.c0,e.c1,e.c2,e.c3]
 · exact kI HO5.out HXL.out K4.out.size (by simp [World.setCell]) _ _ _ _
 · have hx:w.heap.size≤X+1:=by have:=HX.out;omega
   exact li K5.out hx _ _ _ _
theorem lW (cb1:Nat) (cb2:Nat)  (sq:Int) (am:Option Addr) (nm cm b off cv:Nat) (ak:Option Addr) (nk ck:Nat) (a0:Option Addr) (n0 c0:Nat) (a1:Option Addr) (n1 c1:Nat) (a2:Option Addr) (n2 c2:Nat) (M:List ac) (A B C:List ae) (S:List Int) (w:World) (hSh:ps w am nm cm a0 n0 c0 a1 n1 c1 a2 n2 c2 ak nk ck M A B C S) (hCS:∀w',Bl w w'→Calls Tryz.prog 53 #[.agg #[iT sq,.slice am nm cm,sO b off 3 cv,.slice ak nk ck]] w' fun e w''=>e=.returned (.tuple #[.agg #[iT sq,.slice am nm cm,.slice a0 n0 c0,.slice a1 n1 c1,.slice a2 n2 c2,.slice ak nk ck],.bool true])∧Bl w' w'') (hC:∀w',Bl w w'→Calls Tryz.prog 65 #[.agg #[iT sq,.slice am nm cm,.slice a0 n0 c0,.slice a1 n1 c1,.slice a2 n2 c2,.slice ak nk ck],.pointer (pT cb1),.pointer (pT cb2)] w' (B7 w')) (ho:wQ M A B C S) :
 Calls Tryz.prog 42 #[.agg #[iT sq,.slice am nm cm,sO b off 3 cv,.slice ak nk ck],.func (.func 65) #[] #[.pointer (pT cb1),.pointer (pT cb2)]] w (m9 sq M [A,B,C] S false w):=by
 have HCS:=bc hCS;obtain ⟨X,hX⟩:=ay w.heap.size;obtain ⟨W,hW⟩:=ay ((w.alloc (.cells #[iT sq,.slice am nm cm,sO b off 3 cv,.slice ak nk ck] 31)).alloc (.cells #[iT 0,nZ,nZ,nZ] 31));have kW:Bl w W:=by rw [hW];exact bZ.alloc (by simp) _
 have br:aF W (X+1) (iT 0) nZ nZ nZ:=by
  have:=aF.new (w.alloc (.cells #[iT sq,.slice am nm cm,sO b off 3 cv,.slice ak nk ck] 31)) 31 (iT 0) nZ nZ nZ;rw [World.size_alloc] at this;rw [hW,hX];exact this
 have HX:Hid (X=w.heap.size):=hX;have K0:Hid (Bl w W):=kW;have BR0:Hid (aF W (X+1) (iT 0) nZ nZ nZ):=br;have CSN:=bc hC;have HO:=bc ho;have HSI:=bc hSh;clear kW br hCS hC ho hSh;go_enter Tryz.func42,Tryz.ntmps42
 go_wp2_with fail
 rw [← hX,← hW];clear hX hW;refine (HCS.out _ K0.out).mono ?_;rintro e w1 ⟨rfl,hb1⟩;obtain ⟨P1,hP1⟩:=ay w1.heap.size;obtain ⟨w2,hw2⟩:=ay (w1.alloc (.cells #[iT sq,.slice am nm cm,.slice a0 n0 c0,.slice a1 n1 c1,.slice a2 n2 c2,.slice ak nk ck] 67));have k2:Bl w1 w2:=by rw [hw2];exact bZ
 have K2:Hid (Bl w w2):=(K0.out.trans (hb1.mono K0.out.size)).trans (k2.mono (Nat.le_trans K0.out.size hb1.size));have BR2:Hid (aF w2 (X+1) (iT 0) nZ nZ nZ):=(BR0.out.keep hb1).keep k2;have BW2:Hid (bn w2 P1 (iT sq) (.slice am nm cm) (.slice a0 n0 c0) (.slice a1 n1 c1) (.slice a2 n2 c2) (.slice ak nk ck)):=by rw [hw2,hP1];exact bn.new _ _ _ _ _ _ _ _
 clear hb1 k2;go_wp2_with fail
 rw [← hw2];try rw [← hP1]
 clear hP1 hw2;refine (CSN.out _ K2.out).mono ?_;rintro e w3 ⟨q2,am2,nm2,cm2,a02,n02,c02,a12,n12,c12,a22,n22,c22,ak2,nk2,ck2,rfl,hb3⟩;have BW3:Hid (bn w3 P1 (iT sq) (.slice am nm cm) (.slice a0 n0 c0) (.slice a1 n1 c1) (.slice a2 n2 c2) (.slice ak nk ck)):=BW2.out.keep hb3;obtain ⟨P2,hP2⟩:=ay w3.heap.size;obtain ⟨wn,hwn⟩:=ay (w3.alloc (.cells #[iT q2,.slice am2 nm2 cm2,.slice a02 n02 c02,.slice a12 n12 c12,.slice a22 n22 c22,.slice ak2 nk2 ck2] 67));have kn:Bl w3 wn:=by rw [hwn];exact bZ
 have K3:Hid (Bl w w3):=K2.out.trans (hb3.mono K2.out.size);have Kn:Hid (Bl w wn):=K3.out.trans (kn.mono K3.out.size);have bwn:=BW3.out.keep kn;have bnn:bn wn P2 (iT q2) (.slice am2 nm2 cm2) (.slice a02 n02 c02) (.slice a12 n12 c12) (.slice a22 n22 c22) (.slice ak2 nk2 ck2):=by rw [hwn,hP2];exact bn.new _ _ _ _ _ _ _ _
 have hP2w:w.heap.size≤P2:=by rw [hP2];exact K3.out.size
 have rn:=(BR2.out.keep hb3).keep kn;have hrP:X+1≠P2:=by rw [hP2];have:=(BR2.out.keep hb3).lt;omega
 obtain ⟨w4,hw4⟩:=ay ((((((wn.setCell ⟨P2,0,none⟩ (iT sq)).setCell ⟨P2,1,none⟩ (.slice am nm cm)).setCell ⟨P2,2,none⟩ (.slice a0 n0 c0)).setCell ⟨P2,3,none⟩ (.slice a1 n1 c1)).setCell ⟨P2,4,none⟩ (.slice a2 n2 c2)).setCell ⟨P2,5,none⟩ (.slice ak nk ck));have K4:Hid (Bl w w4):=by
  rw [hw4];exact ((li Kn.out hP2w _ _ _ _).setCell (p:=⟨P2,4,none⟩) hP2w _).setCell (p:=⟨P2,5,none⟩) hP2w _
 have BR4:Hid (aF w4 (X+1) (iT 0) nZ nZ nZ):=by
  rw [hw4];exact (((((rn.other (b':=P2) (o:=0) hrP.symm _).other (b':=P2) (o:=1) hrP.symm _).other (b':=P2) (o:=2) hrP.symm _).other (b':=P2) (o:=3) hrP.symm _).other (b':=P2) (o:=4) hrP.symm _).other (b':=P2) (o:=5) hrP.symm _
 have x0:=bwn.c0;have x1:=bwn.c1;have x2:=bwn.c2;have x3:=bwn.c3;have x4:=bwn.c4;have x5:=bwn.c5;have xz:=bwn.lt;have y0:=bnn.c0;have y1:=bnn.c1;have y2:=bnn.c2;have y3:=bnn.c3;have y4:=bnn.c4;have y5:=bnn.c5;have yf:=bnn.fz;have yz:=bnn.lt;have hne:P1≠P2:=by rw [hP2];have:=BW3.out.lt;omega
 clear hb3 kn rn bwn bnn hrP hP2w;go_upto_region 6 with fail
 rw [← hwn];try rw [← hP2]
 clear hwn hP2;go_wp2_with fail
 rw [← hw4];clear hw4 x0 x1 x2 x3 x4 x5 xz y0 y1 y2 y3 y4 y5 yf yz;refine (tY sq _ _ _ _ _ _ _ _ _ _ _ _ _ _ _ M A B C S _ (HSI.out.keep K4.out) HO.out).mono ?_;rintro e w5 ⟨eb,vb,sb,gs,bs,es,rfl,_,hO5,hb5⟩;have K5:Hid (Bl w w5):=K4.out.trans (hb5.mono K4.out.size);have HO5:Hid (dP w4.heap.size w5.heap.size w5 eb nm vb 3 sb nk M [A,B,C] S gs bs es):=hO5;have r5:=(BR4.out.keep hb5);have HR5:Hid (aF w5 (X+1) (iT 0) nZ nZ nZ):=r5;have HXL:Hid (X+1<w4.heap.size):=BR4.out.lt;have d0:=r5.c0;have d1:=r5.c1;have d2:=r5.c2;have d3:=r5.c3;have df:=r5.fz;have dz:=r5.lt;clear hO5 hb5 r5;go_wp2;refine bodyPost_ret (v:=.tuple #[.agg #[iT sq,sL eb nm nm,sL vb 3 3,sL sb nk nk],.bool false]) ?_ rfl ⟨some ⟨eb,0,none⟩,nm,some ⟨vb,0,none⟩,3,some ⟨sb,0,none⟩,nk,gs,bs,es,rfl,.inl ⟨eb,vb,sb,rfl,rfl,rfl,?_⟩,?_⟩
 · have e:=(((HR5.out.set0 (iT sq)).set1 (sL eb nm nm)).set2 (sL vb 3 3)).set3 (sL sb nk nk);simp [results,Tryz.results42,go_sem,e.c0,e.c1,e.c2,e.c3]
 · exact kI HO5.out HXL.out K4.out.size (by simp [World.setCell]) _ _ _ _
 · have hx:w.heap.size≤X+1:=by have:=HX.out;omega
   exact li K5.out hx _ _ _ _
end Go.Proofs.YtlmgojlffgkciaaGreat

namespace Go.Proofs.YtlmgojlffgkciaaGreat
open Go.RowKit
def fj (w:World) (b:Nat) (V:List (List ae)):Prop:=∀(i:Nat) (B:List ae),V[i]?=some B→∃e n c,w.cell? ⟨b,i,none⟩=some (sL e n c)
theorem fj.keep {w w':World} {b:Nat} {V:List (List ae)} (h:fj w b V) (hb:Bl w w'):fj w' b V:=fun i B hB=>by
 obtain ⟨e,n,c,h1⟩:=h i B hB
 exact ⟨e,n,c,cell_later hb h1⟩
theorem dZ.levNN {lo hi b1 nm b2 b3 ns:Nat} {w:World} {V:List (List ae)} (h:dZ lo hi w b1 nm b2 V b3 ns):fj w b2 V:=fun i B hB=>by
 obtain ⟨e,h1,_⟩:=h.levs.levs i B hB
 exact ⟨e,_,_,h1⟩
end Go.Proofs.YtlmgojlffgkciaaGreat

namespace Go.Proofs.YtlmgojlffgkciaaGreat
open Go.RowKit
theorem aM.shareN {lo:Nat} {w:World} {sq:Int} {am ak:Option Addr} {nm cm b nv cv nk ck:Nat} {M:List ac} {V:List (List ae)} {S:List Int} (hT:aM lo w am nm cm (pT b) nv cv ak nk ck M V S) (htb:bV sq M V S=true) (hN:fj w b V):∃A B C e0 n0 c0 e1 n1 c1 e2 n2 c2,nv=3∧V=[A,B,C]∧ps w am nm cm (pT e0) n0 c0 (pT e1) n1 c1 (pT e2) n2 c2 ak nk ck M A B C S∧(∀w',Bl w w'→Calls Tryz.prog 53 #[.agg #[iT sq,.slice am nm cm,sL b 3 cv,.slice ak nk ck]] w' fun e w''=>e=.returned (.tuple #[.agg #[iT sq,.slice am nm cm,sL e0 n0 c0,sL e1 n1 c1,sL e2 n2 c2,.slice ak nk ck],.bool true])∧Bl w' w''):=by
 obtain ⟨A,B,C,hV3⟩:=nM htb;subst hV3;have hnv:nv=3:=hT.levels.length.symm;subst hnv;obtain ⟨A',a0,n0,c0,hA,l0,hR0⟩:=hT.levels.level (Below.refl _ w) 0 (by omega);obtain ⟨B',a1,n1,c1,hB,l1,hR1⟩:=hT.levels.level (Below.refl _ w) 1 (by omega);obtain ⟨C',a2,n2,c2,hC,l2,hR2⟩:=hT.levels.level (Below.refl _ w) 2 (by omega);simp only [List.getElem?_cons_zero,List.getElem?_cons_succ,Option.some.injEq] at hA hB hC;subst hA hB hC;rw [Nat.zero_add] at l0 l1 l2;obtain ⟨e0,_,_,f0⟩:=hN 0 A rfl;obtain ⟨e1,_,_,f1⟩:=hN 1 B rfl;obtain ⟨e2,_,_,f2⟩:=hN 2 C rfl;rw [l0] at f0;rw [l1] at f1;rw [l2] at f2;cases f0;cases f1;cases f2;refine ⟨A,B,C,e0,n0,c0,e1,n1,c1,e2,n2,c2,rfl,rfl,⟨hT.mem.1,hR0.mono (Nat.zero_le _),hR1.mono (Nat.zero_le _),hR2.mono (Nat.zero_le _),hT.snaps.lower (Nat.zero_le _)⟩,fun w' k=>?_⟩;have:=qp lo sq am ak nm cm b 0 cv nk ck M A B C S _ _ _ n0 c0 n1 c1 n2 c2 w' (hT.mem.1.keep k) (hT.snaps.keep k) (hR0.keep k) (hR1.keep k) (hR2.keep k) (cell_later k l0) (cell_later k l1) (cell_later k l2);rw [htb] at this;exact this
end Go.Proofs.YtlmgojlffgkciaaGreat

namespace Go.Proofs.YtlmgojlffgkciaaGreat
open Go.RowKit
theorem xA {lo lo' hi hi' nm nv ns X:Nat} {am av ak:Option Addr} {w:World} {M:List ac} {V:List (List ae)} {S:List Int} {gs bs:Nat→Nat} {es:Nat→Nat→Nat} (h:gH lo hi w am nm av nv ak ns M V S gs bs es) (hX:X<lo) (hl:lo'≤lo) (hh:hi≤hi') (u0 u1 u2 u3:Value):gH lo' hi' ((((w.setCell ⟨X,0,none⟩ u0).setCell ⟨X,1,none⟩ u1).setCell ⟨X,2,none⟩ u2).setCell ⟨X,3,none⟩ u3) am nm av nv ak ns M V S gs bs es:=by
 rcases h with ⟨b1,b2,b3,h1,h2,h3,h4⟩ | h
 · exact .inl ⟨b1,b2,b3,h1,h2,h3,kI h4 hX hl hh _ _ _ _⟩
 · exact .inr h
end Go.Proofs.YtlmgojlffgkciaaGreat

namespace Go.Proofs.YtlmgojlffgkciaaGreat
open Go.RowKit
theorem pf {k t:ByteArray} {q d n:Int} (h:dc k q d t n=true):k.size≤281474976710656∧t.size≤281474976710656:=by
 simp [dc,eX] at h;omega
end Go.Proofs.YtlmgojlffgkciaaGreat
