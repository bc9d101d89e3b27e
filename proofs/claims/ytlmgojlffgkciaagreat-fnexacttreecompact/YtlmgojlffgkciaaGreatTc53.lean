/-
  The walk of the law FnExactTreeCompact, out of what both sides answer.
-/
import Derived.Test.YtlmgojlffgkciaaGreatTc51
import Derived.Test.YtlmgojlffgkciaaGreatTc09
import Derived.Test.YtlmgojlffgkciaaGreatTc52
namespace Go.Proofs.YtlmgojlffgkciaaGreat
open Go.RowKit
set_option maxRecDepth 100000
set_option maxHeartbeats 4000000
theorem dE (q1:Int) (m1:Option Addr) (nm1 cm1:Nat) (v1:Option Addr) (nv1 cv1:Nat) (k1:Option Addr) (ns1 cs1:Nat) (M1:List ac) (V1:List (List ae)) (S1:List Int) (lv:Int) (pk:Int) (q2:Int) (M2:List ac) (V2:List (List ae)) (S2:List Int) (ok:Bool) (w:World) (hT1:aM 0 w m1 nm1 cm1 v1 nv1 cv1 k1 ns1 cs1 M1 V1 S1)
 (hall:BY M1 V1 S1→(∀(a b c:Nat) (w':World),aM 0 w' (pT a) nm1 nm1 (pT b) nv1 nv1 (pT c) ns1 ns1 M1 V1 S1→fj w' b V1→Calls Tryz.prog 30 #[.agg #[iT q1,sL a nm1 nm1,sL b nv1 nv1,sL c ns1 ns1],iT lv,iT pk] w' (t8 q2 M2 V2 S2 ok w'))∧(∀(a b c:Nat) (w':World),aM 0 w' (pT a) nm1 nm1 (pT b) nv1 nv1 (pT c) ns1 ns1 M1 V1 S1→fj w' b V1→Calls Tryz.prog 31 #[.agg #[iT q1,sL a nm1 nm1,sL b nv1 nv1,sL c ns1 ns1],iT lv,iT pk] w' (m9 q2 M2 V2 S2 ok w'))∧rP M2 V2 S2∧(∀z ∈ S2,(Lit.int .i64 z).wf=true)) :
 Calls Tryz.prog 8 #[.agg #[iT q1,.slice m1 nm1 cm1,.slice v1 nv1 cv1,.slice k1 ns1 cs1],iT lv,iT pk] w fun e w'=>e=.returned (.bool true)∧Bl w w':=by
 have H1:=bc hT1;have HML:Hid (M1.length=nm1):=hT1.mem.1.length;have HVL:Hid (V1.length=nv1):=hT1.levels.length;have HSL:Hid (S1.length=ns1):=hT1.snaps.length;have HALL:=bc hall;clear hT1 hall;obtain ⟨X,hX⟩:=ay w.heap.size;obtain ⟨W,hW⟩:=ay (w.alloc (.cells #[iT q1,.slice m1 nm1 cm1,.slice v1 nv1 cv1,.slice k1 ns1 cs1] 26));have kW:Bl w W:=by rw [hW];exact bZ
 have bx:mV W X (iT q1) (.slice m1 nm1 cm1) (.slice v1 nv1 cv1) (.slice k1 ns1 cs1):=by rw [hW,hX];exact mV.new _ _ _ _ _ _
 have K0:Hid (Bl w W):=kW;have BX:Hid (mV W X (iT q1) (.slice m1 nm1 cm1) (.slice v1 nv1 cv1) (.slice k1 ns1 cs1)):=bx;clear kW bx;go_enter Tryz.func8,Tryz.ntmps8
 go_wp2_with fail
 rw [← hX,← hW];clear hW hX;refine (ul _ 0 _ _ _ _ _ _ _ _ _ M1 V1 S1 _ _ (H1.out.keep K0.out) (by omega) (by omega)).mono ?_;rintro e w4 ⟨r,rfl,hr,hb3⟩;have K4:Hid (Bl w w4):=K0.out.trans (hb3.mono K0.out.size);have BX4:Hid (mV w4 X (iT q1) (.slice m1 nm1 cm1) (.slice v1 nv1 cv1) (.slice k1 ns1 cs1)):=BX.out.keep hb3;clear hb3 BX K0;rcases hr with rfl | ⟨hr0,hr1,hsm,hsv⟩
 · go_wp2;go_ret;exact ⟨rfl,K4.out⟩
 have HSUM:Hid (M1.length+(r6 V1+V1.length)+S1.length≤1048576):=by show _≤_;omega
 obtain ⟨CS0,CI0,HF0,HWF0⟩:=HALL.out ⟨HSUM.out,hsm,hsv⟩;have CS:Hid (∀(a b c:Nat) (w':World),aM 0 w' (pT a) nm1 nm1 (pT b) nv1 nv1 (pT c) ns1 ns1 M1 V1 S1→fj w' b V1→Calls Tryz.prog 30 #[.agg #[iT q1,sL a nm1 nm1,sL b nv1 nv1,sL c ns1 ns1],iT lv,iT pk] w' (t8 q2 M2 V2 S2 ok w')):=CS0;have CI:Hid (∀(a b c:Nat) (w':World),aM 0 w' (pT a) nm1 nm1 (pT b) nv1 nv1 (pT c) ns1 ns1 M1 V1 S1→fj w' b V1→Calls Tryz.prog 31 #[.agg #[iT q1,sL a nm1 nm1,sL b nv1 nv1,sL c ns1 ns1],iT lv,iT pk] w' (m9 q2 M2 V2 S2 ok w')):=CI0;have HF:Hid (rP M2 V2 S2):=HF0;have HWF:Hid (∀z ∈ S2,(Lit.int .i64 z).wf=true):=HWF0;have SM1:Hid (rO M1 V1 S1):=qS HSUM.out;clear hsm hsv hr1 CS0 CI0 HF0 HWF0 HALL;have x0:=BX4.out.c0;have x1:=BX4.out.c1;have x2:=BX4.out.c2;have x3:=BX4.out.c3;have xz:=BX4.out.lt;go_wp2_with fail
 clear x0 x1 x2 x3 xz;refine (l3 q1 0 _ _ _ _ _ _ _ _ _ M1 V1 S1 _ (H1.out.keep K4.out) SM1.out).mono ?_;rintro e w5 ⟨a5,b5,c5,rfl,hT5,hB5,hb5⟩;have N5:Hid (fj w5 b5 V1):=hB5.levNN;clear hB5;have K5:Hid (Bl w w5):=K4.out.trans (hb5.mono K4.out.size);have BX5:Hid (mV w5 X (iT q1) (.slice m1 nm1 cm1) (.slice v1 nv1 cv1) (.slice k1 ns1 cs1)):=BX4.out.keep hb5;have T5:Hid (aM 0 w5 (pT a5) nm1 nm1 (pT b5) nv1 nv1 (pT c5) ns1 ns1 M1 V1 S1):=hT5.lowR (Nat.zero_le _);clear hb5 hT5 BX4 K4;go_wp2_with fail
 refine (CS.out _ _ _ _ T5.out N5.out).mono ?_;rintro e w55 ⟨dm,dn,dcm,dv,dnv,dcv,dk,dns,dcs,rfl,hD,hb55⟩;obtain ⟨P,hP⟩:=ay w55.heap.size;obtain ⟨w6,hw6⟩:=ay (w55.alloc (.cells #[iT q2,.slice dm dn dcm,.slice dv dnv dcv,.slice dk dns dcs] 31));have k6:Bl w55 w6:=by rw [hw6];exact bZ
 have K6:Hid (Bl w w6):=(K5.out.trans (hb55.mono K5.out.size)).trans (k6.mono (Nat.le_trans K5.out.size hb55.size));have BX6:Hid (mV w6 X (iT q1) (.slice m1 nm1 cm1) (.slice v1 nv1 cv1) (.slice k1 ns1 cs1)):=(BX5.out.keep hb55).keep k6;have BP6:Hid (mV w6 P (iT q2) (.slice dm dn dcm) (.slice dv dnv dcv) (.slice dk dns dcs)):=by rw [hw6,hP];exact mV.new _ _ _ _ _ _
 have D6:Hid (aM 0 w6 dm dn dcm dv dnv dcv dk dns dcs M2 V2 S2):=hD.keep k6;clear hb55 k6 hD BX5 K5 T5;go_upto_region 6 with fail
 rw [← hw6];try rw [← hP]
 clear hw6 hP;have x0:=BX6.out.c0;have x1:=BX6.out.c1;have x2:=BX6.out.c2;have x3:=BX6.out.c3;have xz:=BX6.out.lt;go_wp2_with fail
 clear x0 x1 x2 x3 xz;refine (l3 q1 0 _ _ _ _ _ _ _ _ _ M1 V1 S1 _ (H1.out.keep K6.out) SM1.out).mono ?_;rintro e w8 ⟨a8,b8,c8,rfl,hT8,hB8,hb8⟩;obtain ⟨Y,hY⟩:=ay w8.heap.size;obtain ⟨l6,hl6⟩:=ay w6.heap.size;obtain ⟨W8,hW8⟩:=ay (w8.alloc (.cells #[iT q1,sL a8 nm1 nm1,sL b8 nv1 nv1,sL c8 ns1 ns1] 31));have k8:Bl w8 W8:=by rw [hW8];exact bZ
 have L8:Hid (Bl w6 W8):=hb8.trans (k8.mono hb8.size);have T8:Hid (aM 0 W8 (pT a8) nm1 nm1 (pT b8) nv1 nv1 (pT c8) ns1 ns1 M1 V1 S1):=(hT8.lowR (Nat.zero_le _)).keep k8;have B8:Hid (dZ l6 Y W8 a8 nm1 b8 V1 c8 ns1):=by rw [hl6,hY];exact hB8.mark (bh.of_below (lo:=0) (hi:=0) k8)
 have BY8:Hid (mV W8 Y (iT q1) (sL a8 nm1 nm1) (sL b8 nv1 nv1) (sL c8 ns1 ns1)):=by rw [hW8,hY];exact mV.new _ _ _ _ _ _
 have HL6:Hid (w6.heap.size≤l6∧w6.heap.size≤Y):=by rw [hl6,hY];exact ⟨Nat.le_refl _,hb8.size⟩
 clear hb8 hT8 hB8 k8 hl6;go_wp2_with fail
 rw [← hW8];try rw [← hY]
 clear hW8 hY;refine (CI.out _ _ _ _ T8.out B8.out.levNN).mono ?_;rintro e w11 ⟨ag,ng,av,nv,ak,ns,gs,bs,es,rfl,hR11,hb11⟩;obtain ⟨lo,hlo⟩:=ay W8.heap.size;obtain ⟨hi,hhi⟩:=ay w11.heap.size;obtain ⟨G,hG⟩:=ay w11.heap.size;obtain ⟨w12,hw12⟩:=ay (w11.alloc (.cells #[iT q2,.slice ag ng ng,.slice av nv nv,.slice ak ns ns] 31));have k12:Bl w11 w12:=by rw [hw12];exact bZ
 have hY8:=BY8.out.lt;have HYL:Hid (Y<lo∧Y≤G∧hi≤G∧w6.heap.size≤lo∧hi≤w12.heap.size):=by
  have h1:=hb11.size;have h2:=L8.out.size;have h3:=k12.size;show _∧_∧_∧_∧_
  omega
 have hres:gH lo hi w12 ag ng av nv ak ns M2 V2 S2 gs bs es:=by rw [hlo,hhi];exact hR11.below k12
 have kall:Bl W8 w12:=hb11.trans (k12.mono hb11.size);have hgat:mV w12 G (iT q2) (.slice ag ng ng) (.slice av nv nv) (.slice ak ns ns):=by rw [hw12,hG];exact mV.new _ _ _ _ _ _
 have ST12:Hid (fk w6 w12 Y (iT q1) (sL a8 nm1 nm1) (sL b8 nv1 nv1) (sL c8 ns1 ns1) G (iT q2) lo hi ag ng av nv ak ns M2 V2 S2 gs bs es):=⟨L8.out.trans (kall.mono L8.out.size),BY8.out.keep kall,hgat,hres⟩;have T12:Hid (aM 0 w12 (pT a8) nm1 nm1 (pT b8) nv1 nv1 (pT c8) ns1 ns1 M1 V1 S1):=T8.out.keep kall;have B12:Hid (dZ l6 Y w12 a8 nm1 b8 V1 c8 ns1):=B8.out.mark (bh.of_below (lo:=0) (hi:=0) kall);obtain ⟨rfl,rfl,rfl⟩:dn=ng∧dnv=nv∧dns=ns:=by
  have h1:=hres.lens;have h2:=D6.out.mem.1.length;have h3:=D6.out.levels.length;have h4:=D6.out.snaps.length;omega
 clear hb11 hR11 k12 kall hres hgat L8 T8 B8 BY8 hlo hhi hY8;go_upto_region 8 with fail
 rw [← hw12];try rw [← hG]
 clear hw12 hG;have bp12:=BP6.out.keep ST12.out.low;have y0:=ST12.out.hg.c0;have y1:=ST12.out.hg.c1;have y2:=ST12.out.hg.c2;have y3:=ST12.out.hg.c3;have yz:=ST12.out.hg.lt;have p0:=bp12.c0;have p1:=bp12.c1;have p2:=bp12.c2;have p3:=bp12.c3;have pz:=bp12.lt;go_wp2_with fail
 clear y0 y1 y2 y3 yz p0 p1 p2 p3 pz bp12;refine (iU q2 0 0 _ _ _ _ _ _ _ _ _ _ _ _ _ _ _ M2 V2 S2 _ (ST12.out.res.treeIn HWF.out) (D6.out.keep ST12.out.low)).mono ?_;rintro e w13 ⟨rfl,hb13⟩;have ST13:Hid (fk w6 w13 Y (iT q1) (sL a8 nm1 nm1) (sL b8 nv1 nv1) (sL c8 ns1 ns1) G (iT q2) lo hi ag dn av dnv ak dns M2 V2 S2 gs bs es):=ST12.out.below hb13;have T13:Hid (aM 0 w13 (pT a8) nm1 nm1 (pT b8) nv1 nv1 (pT c8) ns1 ns1 M1 V1 S1):=T12.out.keep hb13;have B13:Hid (dZ l6 Y w13 a8 nm1 b8 V1 c8 ns1):=B12.out.mark (bh.of_below (lo:=0) (hi:=0) hb13);clear hb13 ST12 T12 B12;go_wp2_with fail
 have k0:Bl w13 w13.drew:=(Below.refl _ w13).drew;have bx13:=BX6.out.keep ST13.out.low;have HMK:Hid (∀w',Bl w13 w'→(fun w'=>w'.cell? ⟨Y,0,none⟩=some (iT q1)∧w'.cell? ⟨Y,1,none⟩=some (sL a8 nm1 nm1)∧w'.cell? ⟨Y,2,none⟩=some (sL b8 nv1 nv1)∧w'.cell? ⟨Y,3,none⟩=some (sL c8 ns1 ns1)∧Y<w'.heap.size∧w'.cell? ⟨X,0,none⟩=some (iT q1)∧w'.cell? ⟨X,1,none⟩=some (.slice m1 nm1 cm1)∧w'.cell? ⟨X,2,none⟩=some (.slice v1 nv1 cv1)∧w'.cell? ⟨X,3,none⟩=some (.slice k1 ns1 cs1)∧X<w'.heap.size) w'):=fun w' kk=>⟨cell_later kk ST13.out.hy.c0,cell_later kk ST13.out.hy.c1,cell_later kk ST13.out.hy.c2,cell_later kk ST13.out.hy.c3,Nat.lt_of_lt_of_le ST13.out.hy.lt kk.size,cell_later kk bx13.c0,cell_later kk bx13.c1,cell_later kk bx13.c2,cell_later kk bx13.c3,Nat.lt_of_lt_of_le bx13.lt kk.size⟩
 refine dM HMK k0 fun aa=>?_
 refine aL 0 2 aa ?_;refine aS 2 fun K hK=>?_
 go_simp;refine (uh q1 0 m1 v1 k1 nm1 cm1 nv1 cv1 ns1 cs1 M1 V1 S1 _ (H1.out.keep ((K6.out.trans (ST13.out.low.mono K6.out.size)).trans (k0.mono (Nat.le_trans K6.out.size ST13.out.low.size)))) SM1.out).mono ?_;rintro e w14 ⟨a14,b14,c14,rfl,hT14,hb14⟩;have k1':Bl w13 w14:=k0.trans (hb14.mono k0.size);have T14:Hid (aM 0 w14 (pT a14) nm1 nm1 (pT b14) nv1 nv1 (pT c14) ns1 ns1 M1 V1 S1):=hT14.lowR (Nat.zero_le _);clear hT14;go_wp2_with fail
 refine hK.out _ _ (HMK.out _ k1') fun aa=>?_
 (try go_frame);refine aS 3 fun K hK=>?_
 go_simp;refine (iU q1 0 0 _ _ _ _ _ _ _ _ _ _ _ _ _ _ _ M1 V1 S1 _ (T13.out.keep k1') T14.out).mono ?_;rintro e w15 ⟨rfl,b15⟩;have k2:Bl w13 w15:=k1'.trans (b15.mono k1'.size);go_wp2_with fail
 refine hK.out _ _ (HMK.out _ k2) fun aa=>?_
 (try go_frame);refine aL 4 1 aa ?_;refine dN ?_;have ST15:Hid (fk w6 w15 Y (iT q1) (sL a8 nm1 nm1) (sL b8 nv1 nv1) (sL c8 ns1 ns1) G (iT q2) lo hi ag dn av dnv ak dns M2 V2 S2 gs bs es):=ST13.out.below k2;have B15:Hid (dZ l6 Y w15 a8 nm1 b8 V1 c8 ns1):=B13.out.mark (bh.of_below (lo:=0) (hi:=0) k2);clear k0 k1' k2 HMK ST13 T13 B13 aa hb14 b15 T14 bx13;have x0:=ST15.out.hy.c0;have x1:=ST15.out.hy.c1;have x2:=ST15.out.hy.c2;have x3:=ST15.out.hy.c3;have xz:=ST15.out.hy.lt;have CMK:Hid (Calls Tryz.prog 15 #[.agg #[iT q1,sL a8 nm1 nm1,sL b8 nv1 nv1,sL c8 ns1 ns1],iT 1] w15 fun e w'=>(∃r:Nat,e=.returned (iT (r:Int)))∧bh l6 Y w15 w'):=by
  have h1:=SM1.out;have h2:=HML.out;have h3:=HSL.out;have h4:=Bu V1;have h5:=HSUM.out;exact tc q1 l6 Y a8 nm1 b8 nv1 c8 ns1 1 V1 w15 B15.out HVL.out (by have:=h1.1;omega) h1.2.1 (by have:=h1.2.2;omega) (Nat.le_of_lt ST15.out.hy.lt) (by omega) (by omega)
 go_wp2_with fail
 clear x0 x1 x2 x3 xz;refine CMK.out.mono ?_;rintro e w16 ⟨⟨kv,rfl⟩,hM16⟩;have ST16:Hid (fk w6 w16 Y (iT q1) (sL a8 nm1 nm1) (sL b8 nv1 nv1) (sL c8 ns1 ns1) G (iT q2) lo hi ag dn av dnv ak dns M2 V2 S2 gs bs es):=by
  have h:=HYL.out;exact ST15.out.markX hM16 HL6.out.1 (Nat.le_refl _) (by omega) h.2.1
 clear hM16 ST15 B15 CMK;have hkv:¬(kv:Int)<0:=by omega
 have bp16:=BP6.out.keep ST16.out.low;have y0:=ST16.out.hg.c0;have y1:=ST16.out.hg.c1;have y2:=ST16.out.hg.c2;have y3:=ST16.out.hg.c3;have yz:=ST16.out.hg.lt;have p0:=bp16.c0;have p1:=bp16.c1;have p2:=bp16.c2;have p3:=bp16.c3;have pz:=bp16.lt;go_wp2_with fail
 clear y0 y1 y2 y3 yz p0 p1 p2 p3 pz bp16;refine (iU q2 0 0 _ _ _ _ _ _ _ _ _ _ _ _ _ _ _ M2 V2 S2 _ (ST16.out.res.treeIn HWF.out) (D6.out.keep ST16.out.low)).mono ?_;rintro e w17 ⟨rfl,hb17⟩;have ST17:Hid (fk w6 w17 Y (iT q1) (sL a8 nm1 nm1) (sL b8 nv1 nv1) (sL c8 ns1 ns1) G (iT q2) lo hi ag dn av dnv ak dns M2 V2 S2 gs bs es):=ST16.out.below hb17;clear ST16 hb17;have y0:=ST17.out.hg.c0;have y1:=ST17.out.hg.c1;have y2:=ST17.out.hg.c2;have y3:=ST17.out.hg.c3;have yz:=ST17.out.hg.lt;go_wp2_with fail
 clear y0 y1 y2 y3 yz;obtain ⟨MM,hMM⟩:=ay (dO 1 dn);obtain ⟨VM,hVM⟩:=ay (gS (1+5*dn) V2);obtain ⟨SM,hSM⟩:=ay (jq (1+5*dn+eP V2) dns);obtain ⟨mv,hmv⟩:∃mv:Int,mv=((1+5*dn+eP V2+dns:Nat):Int):=⟨_,rfl⟩;have hm0:¬mv<0:=by omega
 have CMG:Hid (Calls Tryz.prog 15 #[.agg #[iT q2,.slice ag dn dn,.slice av dnv dnv,.slice ak dns dns],iT 1] w17 fun e w'=>e=.returned (iT mv)∧gH lo hi w' ag dn av dnv ak dns MM VM SM gs bs es∧bu lo hi w17 w'):=by
  rw [hMM,hVM,hSM,hmv];exact AP q2 lo hi dn dnv dns ag av ak M2 V2 S2 gs bs es w17 ST17.out.res (Nat.le_trans HYL.out.2.2.1 (Nat.le_of_lt ST17.out.hg.lt)) HF.out
 have CH:Hid (∀w',gH lo hi w' ag dn av dnv ak dns MM VM SM gs bs es→Calls Tryz.prog 16 #[.agg #[iT q2,.slice ag dn dn,.slice av dnv dnv,.slice ak dns dns],iT 1] w' fun e w''=>e=.returned (iT mv)∧Bl w' w''):=by
  rw [hMM,hVM,hSM,hmv];exact fun w' h=>AU q2 lo hi dn dnv dns ag av ak V2 gs bs es w' h M2 S2 ST17.out.res.lens.1 ST17.out.res.lens.2.2 HF.out
 clear hMM hVM hSM hmv;refine CMG.out.mono ?_;rintro e w18 ⟨rfl,hR18,hk18⟩;have ST18:Hid (fk w6 w18 Y (iT q1) (sL a8 nm1 nm1) (sL b8 nv1 nv1) (sL c8 ns1 ns1) G (iT q2) lo hi ag dn av dnv ak dns MM VM SM gs bs es):=by
  have h:=HYL.out;exact ST17.out.markG hk18 hR18 h.2.2.2.1 h.1 h.2.2.1
 clear ST17 hR18 hk18 CMG;have y0:=ST18.out.hg.c0;have y1:=ST18.out.hg.c1;have y2:=ST18.out.hg.c2;have y3:=ST18.out.hg.c3;have yz:=ST18.out.hg.lt;go_wp2_with fail
 clear y0 y1 y2 y3 yz;refine (CH.out _ ST18.out.res).mono ?_;rintro e w19 ⟨rfl,hb19⟩;have ST19:Hid (fk w6 w19 Y (iT q1) (sL a8 nm1 nm1) (sL b8 nv1 nv1) (sL c8 ns1 ns1) G (iT q2) lo hi ag dn av dnv ak dns MM VM SM gs bs es):=ST18.out.below hb19;clear ST18 hb19;have bx19:=BX6.out.keep ST19.out.low;have x0:=bx19.c0;have x1:=bx19.c1;have x2:=bx19.c2;have x3:=bx19.c3;have xz:=bx19.lt;go_wp2_with fail
 clear x0 x1 x2 x3 xz bx19;refine (l3 q1 0 _ _ _ _ _ _ _ _ _ M1 V1 S1 _ (H1.out.keep (K6.out.trans (ST19.out.low.mono K6.out.size))) SM1.out).mono ?_;rintro e w20 ⟨a20,b20,c20,rfl,hT20,hB20,hb20⟩;have N20:Hid (fj w20 b20 V1):=hB20.levNN;clear hB20;have ST20:Hid (fk w6 w20 Y (iT q1) (sL a8 nm1 nm1) (sL b8 nv1 nv1) (sL c8 ns1 ns1) G (iT q2) lo hi ag dn av dnv ak dns MM VM SM gs bs es):=ST19.out.below hb20;have T20:Hid (aM 0 w20 (pT a20) nm1 nm1 (pT b20) nv1 nv1 (pT c20) ns1 ns1 M1 V1 S1):=hT20.lowR (Nat.zero_le _);clear ST19 hb20 hT20;go_wp2_with fail
 refine (CI.out _ _ _ _ T20.out N20.out).mono ?_;rintro e w21 ⟨ah,nh,avh,nvh,akh,nsh,gsh,bsh,esh,rfl,hR21,hb21⟩;obtain ⟨Z,hZ⟩:=ay w21.heap.size;obtain ⟨w22,hw22⟩:=ay (w21.alloc (.cells #[iT q2,.slice ah nh nh,.slice avh nvh nvh,.slice akh nsh nsh] 31));have k22:Bl w21 w22:=by rw [hw22];exact bZ
 have ST22:Hid (fk w6 w22 Y (iT q1) (sL a8 nm1 nm1) (sL b8 nv1 nv1) (sL c8 ns1 ns1) G (iT q2) lo hi ag dn av dnv ak dns MM VM SM gs bs es):=(ST20.out.below hb21).below k22;have hat:mV w22 Z (iT q2) (.slice ah nh nh) (.slice avh nvh nvh) (.slice akh nsh nsh):=by rw [hw22,hZ];exact mV.new _ _ _ _ _ _
 have HT22:Hid (aM 0 w22 ah nh nh avh nvh nvh akh nsh nsh M2 V2 S2):=(hR21.treeIn HWF.out).keep k22;obtain ⟨rfl,rfl,rfl⟩:nh=dn∧nvh=dnv∧nsh=dns:=by
  have h1:=hR21.lens;have h2:=D6.out.mem.1.length;have h3:=D6.out.levels.length;have h4:=D6.out.snaps.length;omega
 clear ST20 hb21 k22 hR21 T20;go_upto_region 25 with fail
 rw [← hw22];try rw [← hZ]
 clear hw22 hZ;have bp22:=BP6.out.keep ST22.out.low;have y0:=hat.c0;have y1:=hat.c1;have y2:=hat.c2;have y3:=hat.c3;have yz:=hat.lt;have p0:=bp22.c0;have p1:=bp22.c1;have p2:=bp22.c2;have p3:=bp22.c3;have pz:=bp22.lt;go_wp2_with fail
 clear y0 y1 y2 y3 yz p0 p1 p2 p3 pz bp22 hat;refine (iU q2 0 0 _ _ _ _ _ _ _ _ _ _ _ _ _ _ _ M2 V2 S2 _ HT22.out (D6.out.keep ST22.out.low)).mono ?_;rintro e w23 ⟨rfl,hb23⟩;have ST23:Hid (fk w6 w23 Y (iT q1) (sL a8 nm1 nm1) (sL b8 nv1 nv1) (sL c8 ns1 ns1) G (iT q2) lo hi ag nh av nvh ak nsh MM VM SM gs bs es):=ST22.out.below hb23;clear ST22 hb23 HT22;have y0:=ST23.out.hg.c0;have y1:=ST23.out.hg.c1;have y2:=ST23.out.hg.c2;have y3:=ST23.out.hg.c3;have yz:=ST23.out.hg.lt;go_wp2_with fail
 clear y0 y1 y2 y3 yz;refine (CH.out _ ST23.out.res).mono ?_;rintro e w24 ⟨rfl,hb24⟩;have HB24:Hid (Bl w w24):=K6.out.trans ((ST23.out.below hb24).low.mono K6.out.size);clear ST23 hb24;go_wp2;go_ret;exact ⟨rfl,HB24.out⟩
end Go.Proofs.YtlmgojlffgkciaaGreat

namespace Go.Proofs.YtlmgojlffgkciaaGreat
open Go.RowKit
theorem ps.lens {w:World} {am a0 a1 a2 ak:Option Addr} {nm cm n0 c0 n1 c1 n2 c2 nk ck:Nat} {M:List ac} {A B C:List ae} {S:List Int} (h:ps w am nm cm a0 n0 c0 a1 n1 c1 a2 n2 c2 ak nk ck M A B C S):A.length=n0∧B.length=n1∧C.length=n2∧S.length=nk:=⟨h.r0.length,h.r1.length,h.r2.length,h.sn.length⟩
theorem sJ (w:World):aj 0 w none 0 0 []:=⟨rfl,Nat.le_refl _,Nat.zero_le _,fun _=>rfl,(fun _ e=>by cases e),fun _ e=>by cases e⟩
theorem tS (q pk:Int) (nm nv ns:Nat) (M:List ac) (A B C:List ae) (S:List Int) (hml:M.length=nm) (hsl:S.length=ns) (htb:bV q M [A,B,C] S=true) (hA:1≤A.length) (A2 B2:List ae) (ok:Bool) (hok:ok=ku A B C S 1) (hy:ok=true→A2=[]∧B2=dw A B C S 1) (hn:ok=false→A2=A∧B2=B) :
 (∀(a b c:Nat) (w':World),aM 0 w' (pT a) nm nm (pT b) nv nv (pT c) ns ns M [A,B,C] S→fj w' b [A,B,C]→Calls Tryz.prog 30 #[.agg #[iT q,sL a nm nm,sL b nv nv,sL c ns ns],iT 0,iT pk] w' (t8 q M [A2,B2,C] S ok w')) ∧
 (∀(a b c:Nat) (w':World),aM 0 w' (pT a) nm nm (pT b) nv nv (pT c) ns ns M [A,B,C] S→fj w' b [A,B,C]→Calls Tryz.prog 31 #[.agg #[iT q,sL a nm nm,sL b nv nv,sL c ns ns],iT 0,iT pk] w' (m9 q M [A2,B2,C] S ok w'))∧rP M [A2,B2,C] S:=by
 obtain ⟨⟨l0,l1,l2⟩,hrb,ap1,ap2⟩:=ll htb;have hM60:=(bH htb).2.2.1;have hS4:=nf htb;have gA:=eC (Z:=A) (by omega) (hrb A (by simp));have gB:=eC (Z:=B) (by omega) (hrb B (by simp));have gC:=eC (Z:=C) (by omega) (hrb C (by simp));have hcm:=BV htb hA;have hsum:=wP (T:=A) (N:=B) (fun r hr=>(aO (hrb A (by simp) r hr)).2.1) (fun r hr=>(aO (hrb B (by simp) r hr)).2.1) (by omega);have g2:ef A2∧ef B2:=by
  cases ok with
  | true=>obtain ⟨rfl,rfl⟩:=hy rfl;exact ⟨z7,tI hcm (hrb B (by simp)) hok.symm⟩
  | false=>obtain ⟨rfl,rfl⟩:=hn rfl;exact ⟨gA,gB⟩
 have hV:(if ok=true then [[],dw A B C S 1,C] else [A,B,C])=[A2,B2,C]:=by
  cases ok with
  | true=>obtain ⟨rfl,rfl⟩:=hy rfl;rfl
  | false=>obtain ⟨rfl,rfl⟩:=hn rfl;rfl
 obtain ⟨d1,d2⟩:=jz q 0 pk nm nv ns M A B C A2 B2 C S ok htb g2.1 g2.2 gC (fun h=>⟨(hn h).1,(hn h).2,rfl⟩)
  (fun base g1 c1 G c g3 c3 w' hcp _=>by
   obtain ⟨gA',dA',gB',dB',gC',dC',hrow,rA,rB,rC,_,_⟩:=hcp.split;have hc0:w'.cell? ⟨G,0,none⟩=some (sL gA' A.length dA'):=by simpa [Go.WideShapes.add_plain] using hrow.cells (g:=G) rfl 0 _ rfl
   have:=qQ base q g1 nm c1 G c g3 ns c3 M A B C S gA' 0 A.length dA' pk w' hcp.treeIn (by omega) (by omega) (kT gA gB gC) hc0 (rA.runsIn.mono (Nat.zero_le _)) hA (by omega) hcm hsum;rw [← hok,hV] at this;exact this)
  (fun am nm cm e0 n0 c0 e1 n1 c1 e2 n2 c2 ak nk ck w hsh=>by
   obtain ⟨s0,s1,s2,s3⟩:=hsh.lens;have:=rh q am nm cm e0 n0 c0 e1 n1 c1 e2 n2 c2 ak nk ck pk e0 0 n0 c0 A [] B C S w hsh.r0 (by omega) (by omega) hsh.r1 (by omega) hsh.r2 (by omega) hsh.sn (by omega) hcm (hrb B (by simp)) ap2 (hrb C (by simp)) hsum (fun w' _=>(qo q am nm cm (pT e0) n0 c0 e1 n1 c1 (pT e2) n2 c2 ak nk ck pk w').mono (fun e w'' h=>⟨none,0,0,h.1,sJ _,h.2⟩));rw [← hok] at this;refine this.mono ?_;rintro e w' ⟨al,nl,cl,a5,n5,c5,rfl,hr,hb⟩;refine ⟨al,nl,cl,a5,n5,c5,_,_,_,rfl,fun h=>?_,hb⟩;obtain ⟨rfl,rfl⟩:=hy h;exact ⟨(hr h).1,(hr h).2,hsh.r2.keep hb⟩)
 exact ⟨d1,d2,my hM60 hS4 g2.1 g2.2 gC⟩
theorem tR (q:Int) (p nm nv ns:Nat) (M:List ac) (A B C:List ae) (S:List Int) (hml:M.length=nm) (hsl:S.length=ns) (htb:bV q M [A,B,C] S=true) (hp:p<B.length) (B2 C2:List ae) (ok:Bool) (hok:ok=ku ((B.drop p).take 1) C C S 2) (hy:ok=true→B2=B.take p++B.drop (p+1)∧C2=dw ((B.drop p).take 1) C C S 2) (hn:ok=false→B2=B∧C2=C) :
 (∀(a b c:Nat) (w':World),aM 0 w' (pT a) nm nm (pT b) nv nv (pT c) ns ns M [A,B,C] S→fj w' b [A,B,C]→Calls Tryz.prog 30 #[.agg #[iT q,sL a nm nm,sL b nv nv,sL c ns ns],iT 1,iT (p:Int)] w' (t8 q M [A,B2,C2] S ok w')) ∧
 (∀(a b c:Nat) (w':World),aM 0 w' (pT a) nm nm (pT b) nv nv (pT c) ns ns M [A,B,C] S→fj w' b [A,B,C]→Calls Tryz.prog 31 #[.agg #[iT q,sL a nm nm,sL b nv nv,sL c ns ns],iT 1,iT (p:Int)] w' (m9 q M [A,B2,C2] S ok w'))∧rP M [A,B2,C2] S:=by
 obtain ⟨⟨l0,l1,l2⟩,hrb,ap1,ap2⟩:=ll htb;have hM60:=(bH htb).2.2.1;have hS4:=nf htb;have gA:=eC (Z:=A) (by omega) (hrb A (by simp));have gB:=eC (Z:=B) (by omega) (hrb B (by simp));have gC:=eC (Z:=C) (by omega) (hrb C (by simp));have hcm:=BU htb hp;have hsub:((B.drop p).take 1).Sublist B:=(List.take_sublist _ _).trans (List.drop_sublist _ _);have hsum:=wP (T:=(B.drop p).take 1) (N:=C) (fun r hr=>(aO (hrb B (by simp) r (hsub.subset hr))).2.1) (fun r hr=>(aO (hrb C (by simp) r hr)).2.1) (by have:=hsub.length_le;omega);have hleft:(B.take p++B.drop (p+1)).Sublist B:=by
  have h1:(B.take p++B.drop (p+1)).Sublist (B.take p++B.drop p):=List.Sublist.append (List.Sublist.refl _) (by rw [← List.drop_drop];exact List.drop_sublist _ _);rwa [List.take_append_drop] at h1
 have g2:ef B2∧ef C2:=by
  cases ok with
  | true=>obtain ⟨rfl,rfl⟩:=hy rfl;exact ⟨zZ gB hleft,tI hcm (hrb C (by simp)) hok.symm⟩
  | false=>obtain ⟨rfl,rfl⟩:=hn rfl;exact ⟨gB,gC⟩
 have hV:(if ok=true then [A,B.take p++B.drop (p+1),dw ((B.drop p).take 1) C C S 2] else [A,B,C])=[A,B2,C2]:=by
  cases ok with
  | true=>obtain ⟨rfl,rfl⟩:=hy rfl;rfl
  | false=>obtain ⟨rfl,rfl⟩:=hn rfl;rfl
 obtain ⟨d1,d2⟩:=jz q 1 (p:Int) nm nv ns M A B C A B2 C2 S ok htb gA g2.1 g2.2 (fun h=>⟨rfl,(hn h).1,(hn h).2⟩)
  (fun base g1 c1 G c g3 c3 w' hcp _=>by
   obtain ⟨gA',dA',gB',dB',gC',dC',hrow,rA,rB,rC,_,_⟩:=hcp.split;have hc1:w'.cell? ⟨G,1,none⟩=some (sL gB' B.length dB'):=by simpa [Go.WideShapes.add_plain] using hrow.cells (g:=G) rfl 1 _ rfl
   have:=qP base q g1 nm c1 G c g3 ns c3 M A B C S gB' B.length dB' p w' hcp.treeIn (by omega) (by omega) (kT gA gB gC) hc1 (rB.runsIn.mono (Nat.zero_le _)) hp (by omega) hcm hsum;rw [← hok,hV] at this;exact this)
  (fun am nm cm e0 n0 c0 e1 n1 c1 e2 n2 c2 ak nk ck w hsh=>by
   obtain ⟨s0,s1,s2,s3⟩:=hsh.lens;have hroom:=hsh.r1.room;have hTk:aj 0 w (some ⟨e1,p*2,none⟩) 1 (c1 - p) ((B.drop p).take 1):=by
    have:=dp hsh.r1 (i:=p) (j:=p+1) (by omega) (by omega);rw [if_neg (by omega),show p+1 - p=1 by omega] at this;exact this
   have:=rg q am nm cm e0 n0 c0 e1 n1 c1 e2 n2 c2 ak nk ck (p:Int) e1 (p*2) 1 (c1 - p) ((B.drop p).take 1) (B.take p++B.drop (p+1)) C S w hTk (by omega) (by omega) hsh.r2 (by omega) hsh.r2 hsh.sn (by omega) hcm (hrb C (by simp)) ap2 (hrb C (by simp)) hsum (fun w' k=>(xO q am nm cm (pT e0) n0 c0 e1 n1 c1 (pT e2) n2 c2 ak nk ck p B w' (hsh.r1.keep k) (by omega) (by omega)).mono (fun e w'' h=>by
    obtain ⟨v,xs,rfl,hrow,hden,hb⟩:=h;obtain ⟨a,c,rfl,hR⟩:=fe hrow (hden.low hb).den;exact ⟨a,_,c,rfl,hR,hb⟩))
   rw [← hok] at this;refine this.mono ?_;rintro e w' ⟨al,nl,cl,a5,n5,c5,rfl,hr,hb⟩;refine ⟨_,_,_,al,nl,cl,a5,n5,c5,rfl,fun h=>?_,hb⟩;obtain ⟨rfl,rfl⟩:=hy h;exact ⟨hsh.r0.keep hb,(hr h).1,(hr h).2⟩)
 exact ⟨d1,d2,my hM60 hS4 gA g2.1 g2.2⟩
theorem Ak (q lv pk:Int) (nm nv ns:Nat) (M:List ac) (A B C:List ae) (S:List Int) (htb:bV q M [A,B,C] S=true) (hno:¬(lv=0∧1≤A.length)∧¬(lv=1∧0≤pk∧pk<B.length)) :
 (∀(a b c:Nat) (w':World),aM 0 w' (pT a) nm nm (pT b) nv nv (pT c) ns ns M [A,B,C] S→fj w' b [A,B,C]→Calls Tryz.prog 30 #[.agg #[iT q,sL a nm nm,sL b nv nv,sL c ns ns],iT lv,iT pk] w' (t8 q M [A,B,C] S false w')) ∧
 (∀(a b c:Nat) (w':World),aM 0 w' (pT a) nm nm (pT b) nv nv (pT c) ns ns M [A,B,C] S→fj w' b [A,B,C]→Calls Tryz.prog 31 #[.agg #[iT q,sL a nm nm,sL b nv nv,sL c ns ns],iT lv,iT pk] w' (m9 q M [A,B,C] S false w'))∧rP M [A,B,C] S:=by
 obtain ⟨⟨l0,l1,l2⟩,hrb,ap1,ap2⟩:=ll htb;have hM60:=(bH htb).2.2.1;have hS4:=nf htb;have gA:=eC (Z:=A) (by omega) (hrb A (by simp));have gB:=eC (Z:=B) (by omega) (hrb B (by simp));have gC:=eC (Z:=C) (by omega) (hrb C (by simp));obtain ⟨d1,d2⟩:=jz q lv pk nm nv ns M A B C A B C S false htb gA gB gC (fun _=>⟨rfl,rfl,rfl⟩)
  (fun base g1 c1 G c g3 c3 w' hcp _=>by
   obtain ⟨gA',dA',gB',dB',gC',dC',hrow,rA,rB,rC,_,_⟩:=hcp.split;have hc0:w'.cell? ⟨G,0,none⟩=some (sL gA' A.length dA'):=by simpa [Go.WideShapes.add_plain] using hrow.cells (g:=G) rfl 0 _ rfl
   have hc1:w'.cell? ⟨G,1,none⟩=some (sL gB' B.length dB'):=by simpa [Go.WideShapes.add_plain] using hrow.cells (g:=G) rfl 1 _ rfl
   exact qO base q g1 nm c1 G c g3 ns c3 M A B C S _ _ A.length dA' B.length dB' lv pk w' hcp.treeIn hc0 hc1 hno)
  (fun am nm cm e0 n0 c0 e1 n1 c1 e2 n2 c2 ak nk ck w hsh=>by
   obtain ⟨s0,s1,s2,s3⟩:=hsh.lens;refine re q am nm cm e0 n0 c0 e1 n1 c1 e2 n2 c2 ak nk ck lv pk A B C w (fun w' _=>?_);by_cases h0:lv=0
   · subst h0;have hz:n0=0:=by omega
     rw [hz];exact (qo q am nm cm (pT e0) 0 c0 e1 n1 c1 (pT e2) n2 c2 ak nk ck pk w').mono (fun e w'' h=>⟨_,_,_,_,_,h.1,h.2⟩)
   · exact (u9 q am nm cm (pT e0) n0 c0 e1 n1 c1 (pT e2) n2 c2 ak nk ck lv pk w' h0 (by omega)).mono (fun e w'' h=>⟨_,_,_,_,_,h.1,h.2⟩))
 exact ⟨d1,d2,my hM60 hS4 gA gB gC⟩
theorem ix (q1:Int) (m1:Option Addr) (nm1 cm1:Nat) (v1:Option Addr) (nv1 cv1:Nat) (k1:Option Addr) (ns1 cs1:Nat) (M1:List ac) (V1:List (List ae)) (S1:List Int) (lv pk:Int) (w:World) (w0:(Lit.int .i64 q1).wf=true∧aM 0 w m1 nm1 cm1 v1 nv1 cv1 k1 ns1 cs1 M1 V1 S1) (_:(Lit.int .i64 lv).wf=true) (_:(Lit.int .i64 pk).wf=true) :
 Calls Tryz.prog 8 #[.agg #[iT q1,.slice m1 nm1 cm1,.slice v1 nv1 cv1,.slice k1 ns1 cs1],iT lv,iT pk] w fun e w'=>e=.returned (.bool true)∧Bl w w':=by
 have hml:=w0.2.mem.1.length;have hsl:=w0.2.snaps.length;cases htb:bV q1 M1 V1 S1 with
 | true =>
  obtain ⟨A,B,C,hV3⟩:=nM htb;subst hV3;by_cases h0:lv=0∧1≤A.length
  · obtain ⟨rfl,hA⟩:=h0;cases hok:ku A B C S1 1 with
    | true =>
     refine dE q1 m1 nm1 cm1 v1 nv1 cv1 k1 ns1 cs1 M1 [A,B,C] S1 0 pk q1 M1 [[],dw A B C S1 1,C] S1 true w w0.2 (fun _=>?_);obtain ⟨h1,h2,h3⟩:=tS q1 pk nm1 nv1 ns1 M1 A B C S1 hml hsl htb hA [] (dw A B C S1 1) true hok.symm (fun _=>⟨rfl,rfl⟩) (fun h=>by cases h);exact ⟨h1,h2,h3,w0.2.snaps.wfs⟩
    | false =>
     refine dE q1 m1 nm1 cm1 v1 nv1 cv1 k1 ns1 cs1 M1 [A,B,C] S1 0 pk q1 M1 [A,B,C] S1 false w w0.2 (fun _=>?_);obtain ⟨h1,h2,h3⟩:=tS q1 pk nm1 nv1 ns1 M1 A B C S1 hml hsl htb hA A B false hok.symm (fun h=>by cases h) (fun _=>⟨rfl,rfl⟩);exact ⟨h1,h2,h3,w0.2.snaps.wfs⟩
  · by_cases h1:lv=1∧0≤pk∧pk<B.length
    · obtain ⟨rfl,hp0,hp1⟩:=h1;obtain ⟨p,rfl⟩:∃p:Nat,pk=(p:Int):=⟨pk.toNat,by omega⟩;have hp:p<B.length:=by omega
      cases hok:ku ((B.drop p).take 1) C C S1 2 with
      | true =>
       refine dE q1 m1 nm1 cm1 v1 nv1 cv1 k1 ns1 cs1 M1 [A,B,C] S1 1 (p:Int) q1 M1 [A,B.take p++B.drop (p+1),dw ((B.drop p).take 1) C C S1 2] S1 true w w0.2 (fun _=>?_);obtain ⟨h1,h2,h3⟩:=tR q1 p nm1 nv1 ns1 M1 A B C S1 hml hsl htb hp (B.take p++B.drop (p+1)) (dw ((B.drop p).take 1) C C S1 2) true hok.symm (fun _=>⟨rfl,rfl⟩) (fun h=>by cases h);exact ⟨h1,h2,h3,w0.2.snaps.wfs⟩
      | false =>
       refine dE q1 m1 nm1 cm1 v1 nv1 cv1 k1 ns1 cs1 M1 [A,B,C] S1 1 (p:Int) q1 M1 [A,B,C] S1 false w w0.2 (fun _=>?_);obtain ⟨h1,h2,h3⟩:=tR q1 p nm1 nv1 ns1 M1 A B C S1 hml hsl htb hp B C false hok.symm (fun h=>by cases h) (fun _=>⟨rfl,rfl⟩);exact ⟨h1,h2,h3,w0.2.snaps.wfs⟩
    · refine dE q1 m1 nm1 cm1 v1 nv1 cv1 k1 ns1 cs1 M1 [A,B,C] S1 lv pk q1 M1 [A,B,C] S1 false w w0.2 (fun _=>?_);obtain ⟨h2,h3,h4⟩:=Ak q1 lv pk nm1 nv1 ns1 M1 A B C S1 htb ⟨h0,h1⟩;exact ⟨h2,h3,h4,w0.2.snaps.wfs⟩
 | false =>
  refine dE q1 m1 nm1 cm1 v1 nv1 cv1 k1 ns1 cs1 M1 V1 S1 lv pk 0 [] [] [] false w w0.2 (fun _=>⟨fun a b c w' hT _=>?_,fun a b c w' hT _=>?_,Ac,fun z hz=>by cases hz⟩)
  · exact (pF lv pk 0 q1 _ _ _ _ _ _ _ _ _ M1 V1 S1 w' hT htb).mono (fun e w'' h=>yl h)
  · exact jd q1 _ _ _ _ _ _ _ _ _ lv pk 0 [] [] [] false w' (fun w2 k2 _ _=>(yK 0 q1 _ _ _ _ _ _ _ _ _ _ M1 V1 S1 w2 (hT.keep k2) htb).mono (fun e w'' h=>xX h))
end Go.Proofs.YtlmgojlffgkciaaGreat
