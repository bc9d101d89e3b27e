/- Walks. -/
import Derived.Test.YtehiefdphnljaaaGreatDoorSw46
import Derived.Test.YtehiefdphnljaaaGreatDoorSw50
namespace Go.Proofs.YtehiefdphnljaaaGreatDoor
set_option maxRecDepth 100000
set_option maxHeartbeats 40000000
open Go.ChangeShapes Go.Joins Go.RowKit Go.WideShapes
variable {M:List ae} {S:List Int} {U V:List (List aq)} {lg:ByteArray}
theorem dS.markD {w6 wi wj:World} {Y G lo hi a b nm nv ns nd:Nat} {y0 y1 y2 y3 y4 y5 y6 y7 y8 g0 g1 g5 g6 g8:Value} {am av ak d:Option Addr} {x:Wh} (h:dS w6 wi Y y0 y1 y2 y3 y4 y5 y6 y7 y8 G g0 g1 g5 g6 g8 lo hi am nm av nv ak ns d nd M V S U x) (hk:aQ a b wi wj) (ha:w6.heap.size≤a) (hY:Y<a) (hl:b≤lo) (hG:b≤G):dS w6 wj Y y0 y1 y2 y3 y4 y5 y6 y7 y8 G g0 g1 g5 g6 g8 lo hi am nm av nv ak ns d nd M V S U x :=
 ⟨h.low.trans (hk.below ha h.low.size),h.hy.keepO (aI.of_mark hk) (.inl hY),h.hg.keepO (aI.of_mark hk) (.inr hG),h.res.keepO (aI.of_mark hk) hl⟩
theorem ft (up1:Bool) (q1:Int) (m1:Option Addr) (nm1 cm1:Nat) (v1:Option Addr) (nv1 cv1:Nat) (k1:Option Addr) (ns1 cs1:Nat) (lg1:ByteArray) (sf1:Int) (d1:Option Addr) (nd1 cd1:Nat) (sd1:Int) (M1:List ae) (V1:List (List aq)) (S1:List Int) (U1:List (List aq)) (ab:Option Addr) (nb cb:Nat) (K1:List ae) (ok2:Bool) (up2:Bool) (q2:Int) (M2:List ae) (V2:List (List aq)) (S2:List Int) (lg2:ByteArray) (sf2 sd2:Int) (U2:List (List aq)) (w:World) (hl1:lg1.size≤maxLen) (hT1:bU 0 w m1 nm1 cm1 v1 nv1 cv1 k1 ns1 cs1 d1 nd1 cd1 M1 V1 S1 U1) (hKK:an w ab nb cb K1)
 (hall:uk M1 V1 S1 lg1 U1→nb≤1048576→(∀(a b c d f:Nat) (w':World),Bl w w'→bU 0 w' (pT a) nm1 nm1 (pT b) nv1 nv1 (pT c) ns1 ns1 (pT d) nd1 nd1 M1 V1 S1 U1→an w' (pT f) nb nb K1→Calls Tryz.prog 6 #[.agg #[.bool up1,iT q1,sL a nm1 nm1,sL b nv1 nv1,sL c ns1 ns1,.string lg1,iT sf1,sL d nd1 nd1,iT sd1],sL f nb nb] w' (sy up2 q2 M2 V2 S2 lg2 sf2 sd2 U2 ok2 w'))∧(∀(a b c d f:Nat) (w':World),Bl w w'→bU 0 w' (pT a) nm1 nm1 (pT b) nv1 nv1 (pT c) ns1 ns1 (pT d) nd1 nd1 M1 V1 S1 U1→an w' (pT f) nb nb K1→Calls Tryz.prog 9 #[.agg #[.bool up1,iT q1,sL a nm1 nm1,sL b nv1 nv1,sL c ns1 ns1,.string lg1,iT sf1,sL d nd1 nd1,iT sd1],sL f nb nb] w' (qx up2 q2 M2 V2 S2 lg2 sf2 sd2 U2 ok2 w'))∧uP M2 V2 S2 U2∧(∀z ∈ S2,(Lit.int .i64 z).wf=true)) :
 Calls Tryz.prog 3 #[.agg #[.bool up1,iT q1,.slice m1 nm1 cm1,.slice v1 nv1 cv1,.slice k1 ns1 cs1,.string lg1,iT sf1,.slice d1 nd1 cd1,iT sd1],.slice ab nb cb] w fun e w'=>e=.returned (.bool true)∧Bl w w':=by
 have H1:=ar hT1;have HL1:Hid (M1.length=nm1∧V1.length=nv1∧S1.length=ns1∧U1.length=nd1):=⟨hT1.tree.mem.1.length,hT1.tree.levels.length,hT1.tree.snaps.length,hT1.disk.length⟩;have HALL:=ar hall;have HLG:=ar hl1;have HKK:=ar hKK;have HKL:Hid (K1.length=nb):=hKK.length;clear hT1 hall hl1 hKK;obtain ⟨X,hX⟩:=aw w.heap.size;obtain ⟨W,hW⟩:=aw (w.alloc (.cells #[.bool up1,iT q1,.slice m1 nm1 cm1,.slice v1 nv1 cv1,.slice k1 ns1 cs1,.string lg1,iT sf1,.slice d1 nd1 cd1,iT sd1] 30));have kW:Bl w W:=by rw [hW];exact bZ
 have bx:aC W X (.bool up1) (iT q1) (.slice m1 nm1 cm1) (.slice v1 nv1 cv1) (.slice k1 ns1 cs1) (.string lg1) (iT sf1) (.slice d1 nd1 cd1) (iT sd1):=by rw [hW,hX];exact aC.new _ _ _ _ _ _ _ _ _ _ _
 have K0:=ar kW;have BX:=ar bx;clear kW bx;go_enter Tryz.func3,Tryz.ntmps3
 go_wp2_with fail
 rw [← hX,← hW];clear hW hX;refine (qJ 0 up1 q1 m1 nm1 cm1 v1 nv1 cv1 k1 ns1 cs1 lg1 sf1 d1 nd1 cd1 sd1 M1 V1 S1 U1 _ _ (H1.out.keep K0.out) HLG.out (by omega) (by omega)).mono ?_;rintro e w4 ⟨r,rfl,hr,hb3⟩;have K4:Hid (Bl w w4):=K0.out.trans (hb3.mono K0.out.size);have BX4:=ar (BX.out.keep hb3);clear hb3 BX K0;rcases hr with rfl | ⟨hr0,hr1,hsum⟩
 · go_wp2;go_ret;exact ⟨rfl,K4.out⟩
 have hrI:¬r<0:=by omega
 go_wp2_with fail
 refine (jF _ _ _ K1 r _ (HKK.out.keep K4.out) hr0 hr1).mono ?_;rintro e w4b ⟨r2,rfl,hr2,hb4b⟩;have K4b:Hid (Bl w w4b):=K4.out.trans (hb4b.mono K4.out.size);have BX4b:=ar (BX4.out.keep hb4b);clear hb4b BX4 K4;rcases hr2 with rfl | ⟨hr20,hr21,hsk⟩
 · go_wp2;go_ret;exact ⟨rfl,K4b.out⟩
 have hnbb:nb≤1048576:=by have:=HKL.out;omega
 have hr2I:¬r2<0:=by omega
 clear hsk;obtain ⟨CS0,CI0,HF0,HWF0⟩:=HALL.out hsum hnbb;have HSUM:=ar hsum;have CS:=ar CS0;have CI:=ar CI0;have HF:=ar HF0;have HWF:=ar HWF0;have SM1:=ar hsum.small;clear hsum CS0 CI0 HF0 HWF0 HALL;have x0:=BX4b.out.all;go_wp2_with fail
 clear x0;refine (gK 0 up1 q1 m1 nm1 cm1 v1 nv1 cv1 k1 ns1 cs1 lg1 sf1 d1 nd1 cd1 sd1 M1 V1 S1 U1 _ (H1.out.keep K4b.out) SM1.out).mono ?_;rintro e w5 ⟨a5,b5,c5,e5,rfl,hT5,_,hb5⟩;have K5:Hid (Bl w w5):=K4b.out.trans (hb5.mono K4b.out.size);have BX5:=ar (BX4b.out.keep hb5);have T5:=ar hT5.low;clear hb5 hT5 BX4b K4b;go_wp2_with fail
 refine (fc _ _ _ K1 _ (HKK.out.keep K5.out) hnbb).mono ?_;rintro e w5b ⟨rfl,hE5,_,hb5b⟩;obtain ⟨d5,hd5⟩:=aw w5.heap.size;rw [← hd5] at hE5 ⊢;have K5b:Hid (Bl w w5b):=K5.out.trans (hb5b.mono K5.out.size);have BX5b:=ar (BX5.out.keep hb5b);have T5b:=ar (T5.out.keep hb5b);have E5:Hid (an w5b (pT d5) nb nb K1):=hE5.entsAt;clear hb5b hE5 BX5 K5 T5 hd5;go_wp2_with fail
 refine (CS.out _ _ _ _ _ _ K5b.out T5b.out E5.out).mono ?_;rintro e w55 ⟨dm,dn,dcm,dv,dnv,dcv,dk,dns,dcs,dd,dnd,dcd,rfl,hD,hb55⟩;obtain ⟨P,hP⟩:=aw w55.heap.size;obtain ⟨w6,hw6⟩:=aw (w55.alloc (.cells #[.bool up2,iT q2,.slice dm dn dcm,.slice dv dnv dcv,.slice dk dns dcs,.string lg2,iT sf2,.slice dd dnd dcd,iT sd2] 40));have k6:Bl w55 w6:=by rw [hw6];exact bZ
 have K6:Hid (Bl w w6):=(K5b.out.trans (hb55.mono K5b.out.size)).trans (k6.mono (Nat.le_trans K5b.out.size hb55.size));have BX6:=ar ((BX5b.out.keep hb55).keep k6);have BP6:Hid (aC w6 P (.bool up2) (iT q2) (.slice dm dn dcm) (.slice dv dnv dcv) (.slice dk dns dcs) (.string lg2) (iT sf2) (.slice dd dnd dcd) (iT sd2)):=by rw [hw6,hP];exact aC.new _ _ _ _ _ _ _ _ _ _ _
 have D6:=ar (hD.keep k6);clear hb55 k6 hD BX5b K5b T5b E5;go_upto_region 9 with fail
 rw [← hw6];try rw [← hP]
 clear hw6 hP;have x0:=BX6.out.all;go_wp2_with fail
 clear x0;refine (gK 0 up1 q1 m1 nm1 cm1 v1 nv1 cv1 k1 ns1 cs1 lg1 sf1 d1 nd1 cd1 sd1 M1 V1 S1 U1 _ (H1.out.keep K6.out) SM1.out).mono ?_;rintro e w8 ⟨a8,b8,c8,e8,rfl,hT8,hB8,hb8⟩;obtain ⟨Y,hY⟩:=aw w8.heap.size;obtain ⟨l6,hl6⟩:=aw w6.heap.size;obtain ⟨W8,hW8⟩:=aw (w8.alloc (.cells #[.bool up1,iT q1,sL a8 nm1 nm1,sL b8 nv1 nv1,sL c8 ns1 ns1,.string lg1,iT sf1,sL e8 nd1 nd1,iT sd1] 40));have k8:Bl w8 W8:=by rw [hW8];exact bZ
 have L8:Hid (Bl w6 W8):=hb8.trans (k8.mono hb8.size);have T8:Hid (bU 0 W8 (pT a8) nm1 nm1 (pT b8) nv1 nv1 (pT c8) ns1 ns1 (pT e8) nd1 nd1 M1 V1 S1 U1):=hT8.low.keep k8;have B8:Hid (mq l6 Y W8 a8 nm1 b8 V1 c8 ns1 e8 U1):=by rw [hl6,hY];exact hB8.mark (aQ.of_below (lo:=0) (hi:=0) k8)
 have BY8:Hid (aC W8 Y (.bool up1) (iT q1) (sL a8 nm1 nm1) (sL b8 nv1 nv1) (sL c8 ns1 ns1) (.string lg1) (iT sf1) (sL e8 nd1 nd1) (iT sd1)):=by rw [hW8,hY];exact aC.new _ _ _ _ _ _ _ _ _ _ _
 have HL6:Hid (w6.heap.size≤l6∧w6.heap.size≤Y):=by rw [hl6,hY];exact ⟨Nat.le_refl _,hb8.size⟩
 have K8:Hid (Bl w W8):=K6.out.trans (L8.out.mono K6.out.size);clear hb8 hT8 hB8 k8 hl6;go_wp2_with fail
 rw [← hW8];try rw [← hY]
 clear hW8 hY;refine (fc _ _ _ K1 _ (HKK.out.keep K8.out) hnbb).mono ?_;rintro e w9 ⟨rfl,hE9,_,hb9⟩;obtain ⟨d9,hd9⟩:=aw W8.heap.size;rw [← hd9] at hE9 ⊢;have HYD:Hid (Y<d9):=by rw [hd9];exact BY8.out.lt
 have L9:Hid (Bl w6 w9):=L8.out.trans (hb9.mono L8.out.size);have K9:Hid (Bl w w9):=K8.out.trans (hb9.mono K8.out.size);have T9:=ar (T8.out.keep hb9);have B9:Hid (mq l6 Y w9 a8 nm1 b8 V1 c8 ns1 e8 U1):=B8.out.mark (aQ.of_below (lo:=0) (hi:=0) hb9);have BY9:=ar (BY8.out.keep hb9);have E9:Hid (aE w9 d9 d9 nb nb K1):=hE9;clear hb9 hE9 hd9 L8 T8 B8 BY8 K8;have y0:=BY9.out.all;go_wp2_with fail
 clear y0;refine (CI.out _ _ _ _ _ _ K9.out T9.out E9.out.entsAt).mono ?_;rintro e w11 ⟨ag,ng,av,nv,ak,ns,ad,nd,xg,rfl,hR11,hb11⟩;obtain ⟨lo,hlo⟩:=aw w9.heap.size;obtain ⟨hi,hhi⟩:=aw w11.heap.size;obtain ⟨G,hG⟩:=aw w11.heap.size;obtain ⟨w12,hw12⟩:=aw (w11.alloc (.cells #[.bool up2,iT q2,.slice ag ng ng,.slice av nv nv,.slice ak ns ns,.string lg2,iT sf2,.slice ad nd nd,iT sd2] 40));have k12:Bl w11 w12:=by rw [hw12];exact bZ
 have hY8:=BY9.out.lt;have HYL:Hid (Y<lo∧Y≤G∧hi≤G∧w6.heap.size≤lo∧hi≤w12.heap.size):=by
  have h1:=hb11.size;have h2:=L9.out.size;have h3:=k12.size;show _∧_∧_∧_∧_
  omega
 have hres:fV lo hi w12 ag ng av nv ak ns ad nd M2 V2 S2 U2 xg:=by rw [hlo,hhi];exact hR11.below k12
 have kall:Bl w9 w12:=hb11.trans (k12.mono hb11.size);have hgat:aC w12 G (.bool up2) (iT q2) (.slice ag ng ng) (.slice av nv nv) (.slice ak ns ns) (.string lg2) (iT sf2) (.slice ad nd nd) (iT sd2):=by rw [hw12,hG];exact aC.new _ _ _ _ _ _ _ _ _ _ _
 have ST12:Hid (dS w6 w12 Y (.bool up1) (iT q1) (sL a8 nm1 nm1) (sL b8 nv1 nv1) (sL c8 ns1 ns1) (.string lg1) (iT sf1) (sL e8 nd1 nd1) (iT sd1) G (.bool up2) (iT q2) (.string lg2) (iT sf2) (iT sd2) lo hi ag ng av nv ak ns ad nd M2 V2 S2 U2 xg):=⟨L9.out.trans (kall.mono L9.out.size),BY9.out.keep kall,hgat,hres⟩;have T12:=ar (T9.out.keep kall);have B12:Hid (mq l6 Y w12 a8 nm1 b8 V1 c8 ns1 e8 U1):=B9.out.mark (aQ.of_below (lo:=0) (hi:=0) kall);have E12:Hid (aE w12 d9 d9 nb nb K1):=E9.out.below kall;have HDL:Hid (d9+1≤lo∧d9+1≤G):=by
  have h1:=E9.out.lt.2;have h2:=hb11.size;show _∧_
  omega
 obtain ⟨rfl,rfl,rfl,rfl⟩:dn=ng∧dnv=nv∧dns=ns∧dnd=nd:=by
  have h1:=hres.tree.lens;have h0:=hres.disk.len;have h2:=D6.out.tree.mem.1.length;have h3:=D6.out.tree.levels.length;have h4:=D6.out.tree.snaps.length;have h5:=D6.out.disk.length;omega
 clear hb11 hR11 k12 kall hres hgat L9 T9 B9 BY9 E9 hlo hhi hY8 K9;go_upto_region 12 with fail
 rw [← hw12];try rw [← hG]
 clear hw12 hG;have bp12:=BP6.out.keep ST12.out.low;have y0:=ST12.out.hg.all;have p0:=bp12.all;go_wp2_with fail
 clear y0 p0 bp12;refine (fZ 0 0 _ _ _ _ _ _ _ _ _ _ _ _ _ _ _ _ _ M2 V2 S2 U2 _ _ _ _ _ _ _ _ _ (ST12.out.res.storeIn HWF.out) (D6.out.keep ST12.out.low)).mono ?_;rintro e w13 ⟨rfl,hb13⟩;have ST13:Hid (dS w6 w13 Y (.bool up1) (iT q1) (sL a8 nm1 nm1) (sL b8 nv1 nv1) (sL c8 ns1 ns1) (.string lg1) (iT sf1) (sL e8 nd1 nd1) (iT sd1) G (.bool up2) (iT q2) (.string lg2) (iT sf2) (iT sd2) lo hi ag dn av dnv ak dns ad dnd M2 V2 S2 U2 xg):=ST12.out.below hb13;have T13:=ar (T12.out.keep hb13);have B13:Hid (mq l6 Y w13 a8 nm1 b8 V1 c8 ns1 e8 U1):=B12.out.mark (aQ.of_below (lo:=0) (hi:=0) hb13);have E13:Hid (aE w13 d9 d9 nb nb K1):=E12.out.below hb13;clear hb13 ST12 T12 B12 E12;go_wp2_with fail
 have k0:Bl w13 w13.drew:=(Below.refl _ w13).drew;have bx13:=BX6.out.keep ST13.out.low;have HMK:Hid (∀w',Bl w13 w'→(w'.cell? ⟨Y,0,none⟩=some (.bool up1)∧w'.cell? ⟨Y,1,none⟩=some (iT q1)∧w'.cell? ⟨Y,2,none⟩=some (sL a8 nm1 nm1)∧w'.cell? ⟨Y,3,none⟩=some (sL b8 nv1 nv1)∧w'.cell? ⟨Y,4,none⟩=some (sL c8 ns1 ns1)∧w'.cell? ⟨Y,5,none⟩=some (.string lg1)∧w'.cell? ⟨Y,6,none⟩=some (iT sf1)∧w'.cell? ⟨Y,7,none⟩=some (sL e8 nd1 nd1)∧w'.cell? ⟨Y,8,none⟩=some (iT sd1)∧Y<w'.heap.size∧w'.cell? ⟨X,0,none⟩=some (.bool up1)∧w'.cell? ⟨X,1,none⟩=some (iT q1)∧w'.cell? ⟨X,2,none⟩=some (.slice m1 nm1 cm1)∧w'.cell? ⟨X,3,none⟩=some (.slice v1 nv1 cv1)∧w'.cell? ⟨X,4,none⟩=some (.slice k1 ns1 cs1)∧w'.cell? ⟨X,5,none⟩=some (.string lg1)∧w'.cell? ⟨X,6,none⟩=some (iT sf1)∧w'.cell? ⟨X,7,none⟩=some (.slice d1 nd1 cd1)∧w'.cell? ⟨X,8,none⟩=some (iT sd1)∧X<w'.heap.size)):=fun w' kk=>⟨cell_later kk ST13.out.hy.c0,cell_later kk ST13.out.hy.c1,cell_later kk ST13.out.hy.c2,cell_later kk ST13.out.hy.c3,cell_later kk ST13.out.hy.c4,cell_later kk ST13.out.hy.c5,cell_later kk ST13.out.hy.c6,cell_later kk ST13.out.hy.c7,cell_later kk ST13.out.hy.c8,Nat.lt_of_lt_of_le ST13.out.hy.lt kk.size,cell_later kk bx13.c0,cell_later kk bx13.c1,cell_later kk bx13.c2,cell_later kk bx13.c3,cell_later kk bx13.c4,cell_later kk bx13.c5,cell_later kk bx13.c6,cell_later kk bx13.c7,cell_later kk bx13.c8,Nat.lt_of_lt_of_le bx13.lt kk.size⟩
 refine dC HMK k0 fun aa=>?_
 refine aK 0 2 aa ?_;refine aP 2 fun K hK=>?_
 go_simp;refine (gK 0 up1 q1 m1 nm1 cm1 v1 nv1 cv1 k1 ns1 cs1 lg1 sf1 d1 nd1 cd1 sd1 M1 V1 S1 U1 _ (H1.out.keep ((K6.out.trans (ST13.out.low.mono K6.out.size)).trans (k0.mono (Nat.le_trans K6.out.size ST13.out.low.size)))) SM1.out).mono ?_;rintro e w14 ⟨a14,b14,c14,e14,rfl,hT14,_,hb14⟩;have k1':Bl w13 w14:=k0.trans (hb14.mono k0.size);have T14:=ar hT14.low;clear hT14;go_wp2_with fail
 refine hK.out _ _ (HMK.out _ k1') fun aa=>?_
 (try go_frame);refine aP 3 fun K hK=>?_
 go_simp;refine (fZ 0 0 _ _ _ _ _ _ _ _ _ _ _ _ _ _ _ _ _ M1 V1 S1 U1 _ _ _ _ _ _ _ _ _ (T13.out.keep k1') T14.out).mono ?_;rintro e w15 ⟨rfl,b15⟩;have k2:Bl w13 w15:=k1'.trans (b15.mono k1'.size);go_wp2_with fail
 refine hK.out _ _ (HMK.out _ k2) fun aa=>?_
 (try go_frame);refine aK 4 1 aa ?_;refine dN ?_;have ST15:Hid (dS w6 w15 Y (.bool up1) (iT q1) (sL a8 nm1 nm1) (sL b8 nv1 nv1) (sL c8 ns1 ns1) (.string lg1) (iT sf1) (sL e8 nd1 nd1) (iT sd1) G (.bool up2) (iT q2) (.string lg2) (iT sf2) (iT sd2) lo hi ag dn av dnv ak dns ad dnd M2 V2 S2 U2 xg):=ST13.out.below k2;have B15:Hid (mq l6 Y w15 a8 nm1 b8 V1 c8 ns1 e8 U1):=B13.out.mark (aQ.of_below (lo:=0) (hi:=0) k2);have E15:Hid (aE w15 d9 d9 nb nb K1):=E13.out.below k2;clear k0 k1' k2 HMK ST13 T13 B13 E13 aa hb14 b15 T14 bx13;go_wp2_with fail
 refine (fc _ _ _ K1 _ (HKK.out.keep (K6.out.trans (ST15.out.low.mono K6.out.size))) hnbb).mono ?_;rintro e w15b ⟨rfl,hE15,_,hb15b⟩;obtain ⟨d15,hd15⟩:=aw w15.heap.size;rw [← hd15] at hE15 ⊢;have HE15:Hid (an w15b (pT d15) nb nb K1):=hE15.entsAt;have ST15b:=ar (ST15.out.below hb15b);have B15b:Hid (mq l6 Y w15b a8 nm1 b8 V1 c8 ns1 e8 U1):=B15.out.mark (aQ.of_below (lo:=0) (hi:=0) hb15b);have E15b:Hid (aE w15b d9 d9 nb nb K1):=E15.out.below hb15b;clear hE15 hd15 hb15b ST15 B15 E15;go_wp2_with fail
 refine (uc _ _ nb _ _ K1 _ E15b.out.entsAt HE15.out).mono ?_;rintro e w15c ⟨rfl,hb15c⟩;have ST15c:=ar (ST15b.out.below hb15c);have B15c:Hid (mq l6 Y w15c a8 nm1 b8 V1 c8 ns1 e8 U1):=B15b.out.mark (aQ.of_below (lo:=0) (hi:=0) hb15c);have E15c:Hid (aE w15c d9 d9 nb nb K1):=E15b.out.below hb15c;clear hb15c ST15b B15b E15b HE15;have x0:=ST15c.out.hy.all;have CMK:Hid (Calls Tryz.prog 12 #[.agg #[.bool up1,iT q1,sL a8 nm1 nm1,sL b8 nv1 nv1,sL c8 ns1 ns1,.string lg1,iT sf1,sL e8 nd1 nd1,iT sd1],iT 1] w15c fun e w'=>(∃r:Nat,r=1+5*nm1+cZ V1+ns1+cZ U1∧e=.returned (iT (r:Int)))∧aQ l6 Y w15c w'):=by
  have h1:=SM1.out;have h2:=HL1.out;have h4:=lj V1;have h6:=lj U1;have h5:=HSUM.out.1;exact pQ up1 q1 l6 Y a8 nm1 b8 nv1 c8 ns1 e8 nd1 1 lg1 sf1 sd1 V1 U1 w15c B15c.out h2.2.1 h2.2.2.2 (by omega) h1.1.2.1 (by omega) h1.2 (Nat.le_of_lt ST15c.out.hy.lt) (by omega) (by omega)
 go_wp2_with fail
 clear x0;refine CMK.out.mono ?_;rintro e w16 ⟨⟨kv,hkvE,rfl⟩,hM16⟩;have ST16:Hid (dS w6 w16 Y (.bool up1) (iT q1) (sL a8 nm1 nm1) (sL b8 nv1 nv1) (sL c8 ns1 ns1) (.string lg1) (iT sf1) (sL e8 nd1 nd1) (iT sd1) G (.bool up2) (iT q2) (.string lg2) (iT sf2) (iT sd2) lo hi ag dn av dnv ak dns ad dnd M2 V2 S2 U2 xg):=by
  have h:=HYL.out;exact ST15c.out.markX hM16 HL6.out.1 (Nat.le_refl _) (by omega) h.2.1
 have E16:Hid (aE w16 d9 d9 nb nb K1):=hM16.ownE E15c.out (.inr (by have:=HYD.out;omega));clear hM16 ST15c B15c CMK E15c;have hkb:1≤kv∧kv+5*nb≤1000000000:=by
  have h2:=HL1.out;have h4:=lj V1;have h6:=lj U1;have h5:=HSUM.out.1;omega
 have CME:Hid (Calls Tryz.prog 13 #[sL d9 nb nb,iT (kv:Int)] w16 fun e w'=>e=.returned (iT ((kv+5*nb:Nat):Int))∧aQ d9 (d9+1) w16 w') :=
  iM d9 (d9+1) d9 nb kv w16 ⟨Nat.le_refl _,by omega,bK E16.out.owns⟩ hnbb hkb.1 hkb.2
 clear hkvE;go_wp2_with fail
 refine CME.out.mono ?_;rintro e w16b ⟨rfl,hM16b⟩;have ST16b:Hid (dS w6 w16b Y (.bool up1) (iT q1) (sL a8 nm1 nm1) (sL b8 nv1 nv1) (sL c8 ns1 ns1) (.string lg1) (iT sf1) (sL e8 nd1 nd1) (iT sd1) G (.bool up2) (iT q2) (.string lg2) (iT sf2) (iT sd2) lo hi ag dn av dnv ak dns ad dnd M2 V2 S2 U2 xg):=by
  have h1:=HYD.out;have h2:=HDL.out;have h3:=HL6.out;exact ST16.out.markD hM16b (by omega) h1 h2.1 h2.2
 clear hM16b ST16 E16 CME;obtain ⟨kw,hkw⟩:∃kw:Nat,kw=kv+5*nb:=⟨_,rfl⟩;rw [← hkw];clear hkw;have hkv:¬(kw:Int)<0:=by omega
 have bp16:=BP6.out.keep ST16b.out.low;have y0:=ST16b.out.hg.all;have p0:=bp16.all;go_wp2_with fail
 clear y0 p0 bp16;refine (fZ 0 0 _ _ _ _ _ _ _ _ _ _ _ _ _ _ _ _ _ M2 V2 S2 U2 _ _ _ _ _ _ _ _ _ (ST16b.out.res.storeIn HWF.out) (D6.out.keep ST16b.out.low)).mono ?_;rintro e w17 ⟨rfl,hb17⟩;have ST17:Hid (dS w6 w17 Y (.bool up1) (iT q1) (sL a8 nm1 nm1) (sL b8 nv1 nv1) (sL c8 ns1 ns1) (.string lg1) (iT sf1) (sL e8 nd1 nd1) (iT sd1) G (.bool up2) (iT q2) (.string lg2) (iT sf2) (iT sd2) lo hi ag dn av dnv ak dns ad dnd M2 V2 S2 U2 xg):=ST16b.out.below hb17;clear ST16b hb17;have y0:=ST17.out.hg.all;go_wp2_with fail
 clear y0;obtain ⟨MM,hMM⟩:=aw (dc 1 dn);obtain ⟨VM,hVM⟩:=aw (eu (1+5*dn) V2);obtain ⟨SM,hSM⟩:=aw (gY (1+5*dn+cZ V2) dns);obtain ⟨UM,hUM⟩:=aw (eu (1+5*dn+cZ V2+dns) U2);obtain ⟨mv,hmv⟩:∃mv:Int,mv=(Bv dn dns V2 U2:Int):=⟨_,rfl⟩;have hm0:¬mv<0:=by omega
 have CMG:Hid (Calls Tryz.prog 12 #[.agg #[.bool up2,iT q2,.slice ag dn dn,.slice av dnv dnv,.slice ak dns dns,.string lg2,iT sf2,.slice ad dnd dnd,iT sd2],iT 1] w17 fun e w'=>e=.returned (iT mv)∧fV lo hi w' ag dn av dnv ak dns ad dnd MM VM SM UM xg∧aI lo hi w17 w'):=by
  rw [hMM,hVM,hSM,hUM,hmv];exact Bd up2 q2 lg2 sf2 sd2 lo hi dn dnv dns dnd ag av ak ad M2 V2 S2 U2 xg w17 ST17.out.res (Nat.le_trans HYL.out.2.2.1 (Nat.le_of_lt ST17.out.hg.lt)) HF.out
 have CH:Hid (∀w',fV lo hi w' ag dn av dnv ak dns ad dnd MM VM SM UM xg→Calls Tryz.prog 14 #[.agg #[.bool up2,iT q2,.slice ag dn dn,.slice av dnv dnv,.slice ak dns dns,.string lg2,iT sf2,.slice ad dnd dnd,iT sd2],iT 1] w' fun e w''=>e=.returned (iT mv)∧Bl w' w''):=by
  rw [hMM,hVM,hSM,hUM,hmv];exact fun w' h=>Bg up2 q2 lg2 sf2 sd2 lo hi dn dnv dns dnd ag av ak ad M2 V2 S2 U2 xg w' h ST17.out.res.tree.lens.1 ST17.out.res.tree.lens.2.2 HF.out
 clear hMM hVM hSM hUM hmv;refine CMG.out.mono ?_;rintro e w18 ⟨rfl,hR18,hk18⟩;have ST18:Hid (dS w6 w18 Y (.bool up1) (iT q1) (sL a8 nm1 nm1) (sL b8 nv1 nv1) (sL c8 ns1 ns1) (.string lg1) (iT sf1) (sL e8 nd1 nd1) (iT sd1) G (.bool up2) (iT q2) (.string lg2) (iT sf2) (iT sd2) lo hi ag dn av dnv ak dns ad dnd MM VM SM UM xg):=by
  have h:=HYL.out;exact ST17.out.markG hk18 hR18 h.2.2.2.1 h.1 h.2.2.1
 clear ST17 hR18 hk18 CMG;have y0:=ST18.out.hg.all;go_wp2_with fail
 clear y0;refine (CH.out _ ST18.out.res).mono ?_;rintro e w19 ⟨rfl,hb19⟩;have ST19:Hid (dS w6 w19 Y (.bool up1) (iT q1) (sL a8 nm1 nm1) (sL b8 nv1 nv1) (sL c8 ns1 ns1) (.string lg1) (iT sf1) (sL e8 nd1 nd1) (iT sd1) G (.bool up2) (iT q2) (.string lg2) (iT sf2) (iT sd2) lo hi ag dn av dnv ak dns ad dnd MM VM SM UM xg):=ST18.out.below hb19;clear ST18 hb19;have bx19:=BX6.out.keep ST19.out.low;have x0:=bx19.all;go_wp2_with fail
 clear x0 bx19;refine (gK 0 up1 q1 m1 nm1 cm1 v1 nv1 cv1 k1 ns1 cs1 lg1 sf1 d1 nd1 cd1 sd1 M1 V1 S1 U1 _ (H1.out.keep (K6.out.trans (ST19.out.low.mono K6.out.size))) SM1.out).mono ?_;rintro e w20 ⟨a20,b20,c20,e20,rfl,hT20,_,hb20⟩;have ST20:Hid (dS w6 w20 Y (.bool up1) (iT q1) (sL a8 nm1 nm1) (sL b8 nv1 nv1) (sL c8 ns1 ns1) (.string lg1) (iT sf1) (sL e8 nd1 nd1) (iT sd1) G (.bool up2) (iT q2) (.string lg2) (iT sf2) (iT sd2) lo hi ag dn av dnv ak dns ad dnd MM VM SM UM xg):=ST19.out.below hb20;have T20:=ar hT20.low;have K20:Hid (Bl w w20):=K6.out.trans (ST20.out.low.mono K6.out.size);clear ST19 hb20 hT20;go_wp2_with fail
 refine (fc _ _ _ K1 _ (HKK.out.keep K20.out) hnbb).mono ?_;rintro e w20b ⟨rfl,hE20,_,hb20b⟩;obtain ⟨d20,hd20⟩:=aw w20.heap.size;rw [← hd20] at hE20 ⊢;have E20:Hid (an w20b (pT d20) nb nb K1):=hE20.entsAt;have ST20b:=ar (ST20.out.below hb20b);have T20b:=ar (T20.out.keep hb20b);have K20b:Hid (Bl w w20b):=K20.out.trans (hb20b.mono K20.out.size);clear hE20 hd20 hb20b ST20 T20 K20;go_wp2_with fail
 refine (CI.out _ _ _ _ _ _ K20b.out T20b.out E20.out).mono ?_;rintro e w21 ⟨ah,nh,avh,nvh,akh,nsh,adh,ndh,xh,rfl,hR21,hb21⟩;obtain ⟨Z,hZ⟩:=aw w21.heap.size;obtain ⟨w22,hw22⟩:=aw (w21.alloc (.cells #[.bool up2,iT q2,.slice ah nh nh,.slice avh nvh nvh,.slice akh nsh nsh,.string lg2,iT sf2,.slice adh ndh ndh,iT sd2] 40));have k22:Bl w21 w22:=by rw [hw22];exact bZ
 have ST22:Hid (dS w6 w22 Y (.bool up1) (iT q1) (sL a8 nm1 nm1) (sL b8 nv1 nv1) (sL c8 ns1 ns1) (.string lg1) (iT sf1) (sL e8 nd1 nd1) (iT sd1) G (.bool up2) (iT q2) (.string lg2) (iT sf2) (iT sd2) lo hi ag dn av dnv ak dns ad dnd MM VM SM UM xg):=(ST20b.out.below hb21).below k22;have hat:aC w22 Z (.bool up2) (iT q2) (.slice ah nh nh) (.slice avh nvh nvh) (.slice akh nsh nsh) (.string lg2) (iT sf2) (.slice adh ndh ndh) (iT sd2):=by rw [hw22,hZ];exact aC.new _ _ _ _ _ _ _ _ _ _ _
 have HT22:Hid (bU 0 w22 ah nh nh avh nvh nvh akh nsh nsh adh ndh ndh M2 V2 S2 U2):=(hR21.storeIn HWF.out).keep k22;obtain ⟨rfl,rfl,rfl,rfl⟩:nh=dn∧nvh=dnv∧nsh=dns∧ndh=dnd:=by
  have h1:=hR21.tree.lens;have h0:=hR21.disk.len;have h2:=D6.out.tree.mem.1.length;have h3:=D6.out.tree.levels.length;have h4:=D6.out.tree.snaps.length;have h5:=D6.out.disk.length;omega
 clear ST20b hb21 k22 hR21 T20b E20 K20b;go_upto_region 32 with fail
 rw [← hw22];try rw [← hZ]
 clear hw22 hZ;have bp22:=BP6.out.keep ST22.out.low;have y0:=hat.all;have p0:=bp22.all;go_wp2_with fail
 clear y0 p0 bp22 hat;refine (fZ 0 0 _ _ _ _ _ _ _ _ _ _ _ _ _ _ _ _ _ M2 V2 S2 U2 _ _ _ _ _ _ _ _ _ HT22.out (D6.out.keep ST22.out.low)).mono ?_;rintro e w23 ⟨rfl,hb23⟩;have ST23:Hid (dS w6 w23 Y (.bool up1) (iT q1) (sL a8 nm1 nm1) (sL b8 nv1 nv1) (sL c8 ns1 ns1) (.string lg1) (iT sf1) (sL e8 nd1 nd1) (iT sd1) G (.bool up2) (iT q2) (.string lg2) (iT sf2) (iT sd2) lo hi ag nh av nvh ak nsh ad ndh MM VM SM UM xg):=ST22.out.below hb23;clear ST22 hb23 HT22;have y0:=ST23.out.hg.all;go_wp2_with fail
 clear y0;refine (CH.out _ ST23.out.res).mono ?_;rintro e w24 ⟨rfl,hb24⟩;have HB24:Hid (Bl w w24):=K6.out.trans ((ST23.out.below hb24).low.mono K6.out.size);clear ST23 hb24;go_wp2;go_ret;exact ⟨rfl,HB24.out⟩
structure BK (B:Nat) (w:World):Prop where
 e:iy B w
 t:kQ B w
theorem BK.at {w w':World} (h:BK w.heap.size w) (hb:Bl w w'):BK w'.heap.size w' :=
 ⟨fun x hx=>h.e x (hb.trans (hx.mono hb.size)),fun x hx=>h.t x (hb.trans (hx.mono hb.size))⟩
theorem nA (hM:M.length≤1048576) (hV:l9 V+V.length≤1048576) (hS:S.length≤1048576) (hU:l9 U+U.length≤1048576):uP M V S U:=by
 have h1:=lj V;have h2:=lj U;have hs:∀{V:List (List aq)},l9 V+V.length≤1048576→∀B ∈ V,B.length≤1048576∧∀p ∈ B,p.1.length≤1048576:=fun {V} h B hB=>by
  have h3:=pD hB;exact ⟨by omega,fun p hp=>by have:=uo hp;omega⟩
 exact ⟨⟨hM,by omega,hs hV,hS,by omega⟩,by omega,hs hU,by omega⟩
theorem uk.outS (h:uk M V S lg U):AT M V S lg U:=by
 have hs:=h.small;have h1:=h.1;exact ⟨by omega,by omega,h.2.1,fun B hB=>⟨hs.1.2.1.2 B hB,h.2.2.1 B hB⟩,by omega,fun B hB=>⟨hs.2.2 B hB,h.2.2.2 B hB⟩⟩
theorem un {O:Bool} {q:Int} {K:List ae} {zq zq':Int} {zM zM':List ae} {zl zl':ByteArray} (h:Bz O q M K lg zq zM zl) (h':Bz O q M K lg zq' zM' zl'):zq'=zq∧zM'=zM∧zl'=zl:=by
 cases O with
 | true =>
  obtain ⟨rfl,rfl,rfl⟩:=h.1 rfl;exact h'.1 rfl
 | false =>
  obtain ⟨rfl,rfl,rfl⟩:=h.2 rfl;exact h'.2 rfl
theorem iD (up1:Bool) (q1:Int) (m1:Option Addr) (nm1 cm1:Nat) (v1:Option Addr) (nv1 cv1:Nat) (k1:Option Addr) (ns1 cs1:Nat) (lg1:ByteArray) (sf1:Int) (d1:Option Addr) (nd1 cd1:Nat) (sd1:Int) (M1:List ae) (V1:List (List aq)) (S1:List Int) (U1:List (List aq)) (ab:Option Addr) (nb cb:Nat) (K1:List ae) (w:World) (w0:lg1.size≤maxLen∧bU 0 w m1 nm1 cm1 v1 nv1 cv1 k1 ns1 cs1 d1 nd1 cd1 M1 V1 S1 U1) (w1:an w ab nb cb K1) (hF:BK w.heap.size w) :
 Calls Tryz.prog 3 #[.agg #[.bool up1,iT q1,.slice m1 nm1 cm1,.slice v1 nv1 cv1,.slice k1 ns1 cs1,.string lg1,iT sf1,.slice d1 nd1 cd1,iT sd1],.slice ab nb cb] w fun e w'=>e=.returned (.bool true)∧Bl w w':=by
 obtain ⟨hl,hT⟩:=w0;have hwf:=hT.tree.snaps.wfs;obtain ⟨P,k,hw⟩:=qF lg1.data.toList.length lg1.data.toList (Nat.le_refl _);cases hok:lI up1 q1 M1 V1 S1 lg1 sf1 sd1 U1 P k with
 | false =>
  refine ft up1 q1 m1 nm1 cm1 v1 nv1 cv1 k1 ns1 cs1 lg1 sf1 d1 nd1 cd1 sd1 M1 V1 S1 U1 ab nb cb K1 false false 0 [] [] [] ⟨#[]⟩ 0 0 [] w hl hT w1 (fun hs hnb=>?_);have hlg:lg1.size≤1048576:=by have:=hs.1;omega
  have ho:=hs.outS;refine ⟨fun a b c d f w' kk hS hE=>?_,fun a b c d f w' kk hS hE=>?_,?_,?_⟩
  · exact (fK (pT f) nb nb K1 up1 q1 a c (pT b) (pT d) nm1 nm1 nv1 nv1 ns1 ns1 nd1 nd1 M1 V1 S1 lg1 sf1 sd1 U1 P k w' hS.tree hS.disk hlg hw hE hnb).mono (fun e w'' h=>h.1 hok)
  · exact gL up1 q1 (pT a) (pT b) (pT c) (pT d) nm1 nm1 nv1 nv1 ns1 ns1 nd1 nd1 lg1 sf1 sd1 (pT f) nb nb false 0 [] [] [] ⟨#[]⟩ 0 0 [] false w' (fun bq w2 hq k2=>(pA bq (pT f) nb nb K1 up1 q1 (pT a) (pT b) (pT c) (pT d) nm1 nm1 nv1 nv1 ns1 ns1 nd1 nd1 M1 V1 S1 lg1 sf1 sd1 U1 P k w2 (hS.tree.keep k2) (hS.disk.keep k2) hlg (hF.at (kk.trans (k2.mono kk.size))).e (hF.at (kk.trans (k2.mono kk.size))).t hw ho (hE.keep k2) hq hnb).mono (fun e w'' h=>h.1 hok))
  · exact nA (by simp) (by simp [l9]) (by simp) (by simp [l9])
  · exact fun z hz=>by cases hz
 | true =>
  cases up1 with
  | true =>
   obtain ⟨zq,zM,zl,hZ⟩:=qy (dl true q1 M1 K1 lg1) q1 M1 K1 lg1;refine ft true q1 m1 nm1 cm1 v1 nv1 cv1 k1 ns1 cs1 lg1 sf1 d1 nd1 cd1 sd1 M1 V1 S1 U1 ab nb cb K1 (dl true q1 M1 K1 lg1) true zq zM V1 S1 zl sf1 sd1 U1 w hl hT w1 (fun hs hnb=>?_);have hzM:zM.length≤1048576 - (l9 V1+V1.length) - S1.length∨zM.length≤60:=by
    cases hd:dl true q1 M1 K1 lg1 with
    | true =>
     rw [hd] at hZ;obtain ⟨rfl,rfl,rfl⟩:=hZ.1 rfl;exact .inr (pk (bH (xY hok).1).2.2.2.1 (lX hd).2.1)
    | false =>
     rw [hd] at hZ;obtain ⟨rfl,rfl,rfl⟩:=hZ.2 rfl;exact .inl (by have:=hs.1;omega)
   have hlg:lg1.size≤1048576:=by have:=hs.1;omega
   have ho:=hs.outS;refine ⟨fun a b c d f w' kk hS hE=>?_,fun a b c d f w' kk hS hE=>?_,?_,?_⟩
   · refine (fK (pT f) nb nb K1 true q1 a c (pT b) (pT d) nm1 nm1 nv1 nv1 ns1 ns1 nd1 nd1 M1 V1 S1 lg1 sf1 sd1 U1 P k w' hS.tree hS.disk hlg hw hE hnb).mono (fun e w'' h=>?_);obtain ⟨zq',zM',zl',hZ',hd⟩:=h.2.1 hok rfl;obtain ⟨rfl,rfl,rfl⟩:=un hZ hZ';exact hd
   · refine gL true q1 (pT a) (pT b) (pT c) (pT d) nm1 nm1 nv1 nv1 ns1 ns1 nd1 nd1 lg1 sf1 sd1 (pT f) nb nb true zq zM V1 S1 zl sf1 sd1 U1 (dl true q1 M1 K1 lg1) w' (fun bq w2 hq k2=>(pA bq (pT f) nb nb K1 true q1 (pT a) (pT b) (pT c) (pT d) nm1 nm1 nv1 nv1 ns1 ns1 nd1 nd1 M1 V1 S1 lg1 sf1 sd1 U1 P k w2 (hS.tree.keep k2) (hS.disk.keep k2) hlg (hF.at (kk.trans (k2.mono kk.size))).e (hF.at (kk.trans (k2.mono kk.size))).t hw ho (hE.keep k2) hq hnb).mono (fun e w'' h=>?_));obtain ⟨zq',zM',zl',hZ',hd⟩:=h.2.1 hok rfl;obtain ⟨rfl,rfl,rfl⟩:=un hZ hZ';exact hd
   · exact nA (by omega) (by have:=hs.1;omega) (by have:=hs.1;omega) (by have:=hs.1;omega)
   · exact hwf
  | false =>
   refine ft false q1 m1 nm1 cm1 v1 nv1 cv1 k1 ns1 cs1 lg1 sf1 d1 nd1 cd1 sd1 M1 V1 S1 U1 ab nb cb K1 false false 0 [] [] [] lg1 sf1 sd1 U1 w hl hT w1 (fun hs hnb=>?_);have hlg:lg1.size≤1048576:=by have:=hs.1;omega
   have ho:=hs.outS;refine ⟨fun a b c d f w' kk hS hE=>?_,fun a b c d f w' kk hS hE=>?_,?_,?_⟩
   · exact (fK (pT f) nb nb K1 false q1 a c (pT b) (pT d) nm1 nm1 nv1 nv1 ns1 ns1 nd1 nd1 M1 V1 S1 lg1 sf1 sd1 U1 P k w' hS.tree hS.disk hlg hw hE hnb).mono (fun e w'' h=>h.2.2 hok rfl)
   · exact gL false q1 (pT a) (pT b) (pT c) (pT d) nm1 nm1 nv1 nv1 ns1 ns1 nd1 nd1 lg1 sf1 sd1 (pT f) nb nb false 0 [] [] [] lg1 sf1 sd1 U1 false w' (fun bq w2 hq k2=>(pA bq (pT f) nb nb K1 false q1 (pT a) (pT b) (pT c) (pT d) nm1 nm1 nv1 nv1 ns1 ns1 nd1 nd1 M1 V1 S1 lg1 sf1 sd1 U1 P k w2 (hS.tree.keep k2) (hS.disk.keep k2) hlg (hF.at (kk.trans (k2.mono kk.size))).e (hF.at (kk.trans (k2.mono kk.size))).t hw ho (hE.keep k2) hq hnb).mono (fun e w'' h=>h.2.2 hok rfl))
   · exact nA (by simp) (by simp [l9]) (by simp) (by have:=hs.1;omega)
   · exact fun z hz=>by cases hz
theorem vy {H:Type} {enc:TypeId × Value→H} {W:World} {b0 base:Nat} {v:Value} {d:DataW H} {p:List MemPlace} {held:Bool}
 (hv:Value.okWide Tryz.prog W .any b0 22 v) (h:DataW.Trod enc Tryz.prog W base (fun _=>true) held 22 v d p) :
 ∃(a:Option Addr) (len cap:Nat) (L:List ae),v=.slice a len cap∧an W a len cap L:=by
 obtain ⟨a1,len1,cap1,rfl⟩:=okWide_slice Tryz.underlying22 hv;obtain ⟨fuel,hf⟩:=h;exact ld hf
end Go.Proofs.YtehiefdphnljaaaGreatDoor
