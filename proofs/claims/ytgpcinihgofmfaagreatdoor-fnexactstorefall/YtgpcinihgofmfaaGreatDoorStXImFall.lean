/-
  What the program's fallen answers, by a walk of its Go text.
-/
import Derived.Test.YtgpcinihgofmfaaGreatDoorSt45
import Derived.Test.YtgpcinihgofmfaaGreatDoorSt42
namespace Go.Proofs.YtgpcinihgofmfaaGreatDoor
open Go.RowKit
set_option maxRecDepth 100000
set_option maxHeartbeats 8000000
def A9 (up:Bool) (q:Int) (M:List ae) (V:List (List aj)) (S:List Int) (lg:ByteArray) (sf sd:Int) (U:List (List aj)) (P:List (List ae)) (k:Nat) (N:Nat) (w:World) (e:Ending) (w':World):Prop:=Bc (js up q M V S lg sf sd U P k) up (gU false 0 [] [] [] ⟨#[]⟩ 0 0 [] w e w') (gU false 0 [] [] [] (lg.extract 0 N) (N:Int) sd U w e w') (gU false 0 [] [] [] lg sf sd U w e w')
theorem jW (up:Bool) (q:Int) (am av ak dv:Option Addr) (nm cm nv cv ns cs nd cd:Nat) (M:List ae) (V:List (List aj)) (S:List Int) (lg:ByteArray) (sf sd:Int) (U:List (List aj)) (P:List (List ae)) (k:Nat) (keep:Int) (N:Nat) (w:World) (hT:aW 0 w am nm cm av nv cv ak ns cs M V S) (hU:ay 0 w dv nd cd U) (hlg:lg.size≤1048576) (hE:fX w.heap.size w) (hTB:jI w.heap.size w) (hw:bG lg.data.toList P k) (ho:tX M V S lg U) (hN:js up q M V S lg sf sd U P k=true→nS lg sf keep N) :
 Calls Tryz.prog 32 #[.agg #[.bool up,iT q,.slice am nm cm,.slice av nv cv,.slice ak ns cs,.string lg,iT sf,.slice dv nd cd,iT sd],iT keep,.func (.func 33) #[] #[]] w (A9 up q M V S lg sf sd U P k N w):=by
 obtain ⟨X,hX⟩:=aw w.heap.size;obtain ⟨W,hW⟩:=aw ((w.alloc (.cells #[.bool up,iT q,.slice am nm cm,.slice av nv cv,.slice ak ns cs,.string lg,iT sf,.slice dv nd cd,iT sd] 39)).alloc (.cells #[.bool false,iT 0,nZ,nZ,nZ,.string ⟨#[]⟩,iT 0,nZ,iT 0] 39));have kW:Bl w W:=by rw [hW];exact bZ.alloc (by simp) _
 have bx:aA W X (.bool up) (iT q) (.slice am nm cm) (.slice av nv cv) (.slice ak ns cs) (.string lg) (iT sf) (.slice dv nd cd) (iT sd):=by rw [hW,hX];exact (aA.new _ _ _ _ _ _ _ _ _ _ _).alloc _
 have br:aA W (X+1) (.bool false) (iT 0) nZ nZ nZ (.string ⟨#[]⟩) (iT 0) nZ (iT 0):=by
  have:=aA.new (w.alloc (.cells #[.bool up,iT q,.slice am nm cm,.slice av nv cv,.slice ak ns cs,.string lg,iT sf,.slice dv nd cd,iT sd] 39)) 39 (.bool false) (iT 0) nZ nZ nZ (.string ⟨#[]⟩) (iT 0) nZ (iT 0);rw [World.size_alloc] at this;rw [hW,hX];exact this
 have HXW:=ar hX;have HKW:=ar kW;have HBX:=ar bx;have HBR:=ar br;have HT:=ar (hT.keep kW);have HU:=ar (hU.keep kW);have HOU:=ar ho;have HFW:Hid (∀w',Bl w w'→fX w'.heap.size w'∧jI w'.heap.size w'):=fun w' k=>⟨fun x hx=>hE x (k.trans (hx.mono k.size)),fun x hx=>hTB x (k.trans (hx.mono k.size))⟩
 have HW:=ar hw;have CS:=fS 0 up q am av ak dv nm cm nv cv ns cs nd cd M V S lg sf sd U W HT.out HU.out hlg (HFW.out W kW).1 (HFW.out W kW).2;have x0:=bx.c0;have x1:=bx.c1;have x2:=bx.c2;have x3:=bx.c3;have x4:=bx.c4;have x5:=bx.c5;have x6:=bx.c6;have x7:=bx.c7;have x8:=bx.c8;have xz:=bx.lt;clear kW bx br hT hU hw ho hE hTB;go_enter Tryz.func32,Tryz.ntmps32
 go_upto_region 1 with fail
 rw [← hX,← hW];clear hX hW;go_wp2_with fail
 refine CS.mono ?_;rintro e w1 ⟨vv,b,rfl,hsv,hb,hb1,hok⟩;have hb:=hb P k HW.out;have HB:=ar hb;have HOK:=ar hok;have HSV:=ar hsv;have KB1:=ar hb1;have K1:Hid (Bl w w1):=HKW.out.trans (hb1.mono HKW.out.size);have HR1:=ar (HBR.out.keep hb1);have hx1:w.heap.size≤X+1:=by have:=HXW.out;omega
 have HX1L:=ar hx1;have HZ1:Hid (X+1<w1.heap.size):=HR1.out.lt;clear hb hb1 hok hsv CS x0 x1 x2 x3 x4 x5 x6 x7 x8 xz hx1;cases b with
 | false =>
  obtain ⟨u1,z1,z2,z3,T1,p0,s0,t0,p1,s1,t1,p2,s2,t2,p3,s3,t3,p4,s4,t4,p5,s5,t5,p6,s6,t6,p7,s7,t7,rfl⟩:=HSV.out;clear HSV HOK;go_upto_region 2 with fail
  obtain ⟨Y,hY⟩:=aw w1.heap.size;obtain ⟨w2,hww2⟩:=aw (w1.alloc (.cells #[.bool u1,iT z1,.slice p0 s0 t0,.slice p1 s1 t1,.slice p2 s2 t2,.slice p3 s3 t3,.slice p4 s4 t4,.string T1,iT z2,.slice p5 s5 t5,.slice p6 s6 t6,.slice p7 s7 t7,iT z3] 68));have kw2:Bl w1 w2:=by rw [hww2];exact bZ
  have HBY:Hid (aC w2 Y (.bool u1) (iT z1) (.slice p0 s0 t0) (.slice p1 s1 t1) (.slice p2 s2 t2) (.slice p3 s3 t3) (.slice p4 s4 t4) (.string T1) (iT z2) (.slice p5 s5 t5) (.slice p6 s6 t6) (.slice p7 s7 t7) (iT z3)):=by rw [hww2,hY];exact aC.new _ _ _ _ _ _ _ _ _ _ _ _ _ _ _
  have K2:Hid (Bl w w2):=K1.out.trans (kw2.mono K1.out.size);have HR2:=ar (HR1.out.keep kw2);rw [← hww2];try rw [← hY]
  clear hww2 hY kw2;have yz:=HBY.out.lt;have r9:=HR2.out;have u0:=r9.c0;have u1:=r9.c1;have u2:=r9.c2;have u3:=r9.c3;have u4:=r9.c4;have u5:=r9.c5;have u6:=r9.c6;have u7:=r9.c7;have u8:=r9.c8;have uf:=r9.fz;have uz:=r9.lt;obtain ⟨wf,hwf⟩:=aw (((((((((w2.setCell ⟨X+1,0,none⟩ (.bool false)).setCell ⟨X+1,1,none⟩ (iT 0)).setCell ⟨X+1,2,none⟩ nZ).setCell ⟨X+1,3,none⟩ nZ).setCell ⟨X+1,4,none⟩ nZ).setCell ⟨X+1,5,none⟩ (.string ⟨#[]⟩)).setCell ⟨X+1,6,none⟩ (iT 0)).setCell ⟨X+1,7,none⟩ nZ).setCell ⟨X+1,8,none⟩ (iT 0));have HRF:Hid (aA wf (X+1) (.bool false) (iT 0) nZ nZ nZ (.string ⟨#[]⟩) (iT 0) nZ (iT 0)):=by rw [hwf];exact r9.sets (.bool false) (iT 0) nZ nZ nZ (.string ⟨#[]⟩) (iT 0) nZ (iT 0)
  have KF:Hid (Bl w wf):=by rw [hwf];exact bh K2.out HX1L.out (.bool false) (iT 0) nZ nZ nZ (.string ⟨#[]⟩) (iT 0) nZ (iT 0)
  have KO:Hid (aG (X+1) (X+1+1) w2 wf):=by rw [hwf];exact bY w2 (X+1) (.bool false) (iT 0) nZ nZ nZ (.string ⟨#[]⟩) (iT 0) nZ (iT 0)
  have HWF:=ar hwf;clear hwf r9;go_wp2;rw [← HWF.out];refine bodyPost_ret (v:=.agg #[.bool false,iT 0,nZ,nZ,nZ,.string ⟨#[]⟩,iT 0,nZ,iT 0]) ?_ rfl ?_
  · have e:=HRF.out;simp [results,Tryz.results32,go_sem,e.c0,e.c1,e.c2,e.c3,e.c4,e.c5,e.c6,e.c7,e.c8]
  · have h:=HB.out.symm;have d:gU false 0 [] [] [] ⟨#[]⟩ 0 0 [] w (.returned (.agg #[.bool false,iT 0,nZ,nZ,nZ,.string ⟨#[]⟩,iT 0,nZ,iT 0])) wf:=⟨none,0,none,0,none,0,none,0,_,rfl,mQ _ _ _ KF.out.size,KF.out⟩;refine ⟨?_,?_,?_⟩
    · exact fun _=>d
    · exact fun h'=>by rw [h] at h';exact Bool.noConfusion h'
    · exact fun h'=>by rw [h] at h';exact Bool.noConfusion h'
 | true =>
  have hD:=ia HB.out.symm;have HD:=ar hD;clear HSV;cases up with
  | true =>
   obtain ⟨a0,a1,a2,n0,c0,n1,c1,n2,c2,hLU,hdn,hup⟩:=HOK.out rfl;obtain ⟨b0,b1,b2,m0,e0,m1,e1,m2,e2,hLV,rfl⟩:=hup rfl;have HLV:=ar hLV;clear hLV;have HLU:=ar hLU;clear hLU hdn hup HOK;go_upto_region 2 with fail
   obtain ⟨Y,hY⟩:=aw w1.heap.size;obtain ⟨w2,hww2⟩:=aw (w1.alloc (.cells #[.bool true,iT q,.slice am nm cm,.slice b0 m0 e0,.slice b1 m1 e1,.slice b2 m2 e2,.slice ak ns cs,.string lg,iT sf,.slice a0 n0 c0,.slice a1 n1 c1,.slice a2 n2 c2,iT sd] 68));have kw2:Bl w1 w2:=by rw [hww2];exact bZ
   have HBY:Hid (aC w2 Y (.bool true) (iT q) (.slice am nm cm) (.slice b0 m0 e0) (.slice b1 m1 e1) (.slice b2 m2 e2) (.slice ak ns cs) (.string lg) (iT sf) (.slice a0 n0 c0) (.slice a1 n1 c1) (.slice a2 n2 c2) (iT sd)):=by rw [hww2,hY];exact aC.new _ _ _ _ _ _ _ _ _ _ _ _ _ _ _
   have KB2:Hid (Bl W w2):=KB1.out.trans (kw2.mono KB1.out.size);have K2:Hid (Bl w w2):=K1.out.trans (kw2.mono K1.out.size);have HR2:=ar (HR1.out.keep kw2);have HLU2:=ar (HLU.out.keep kw2);have HLV2:=ar (HLV.out.keep kw2);rw [← hww2];try rw [← hY]
   clear hww2 hY kw2;have yb:=HBY.out;have y0:=yb.c0;have y1:=yb.c1;have y2:=yb.c2;have y3:=yb.c3;have y4:=yb.c4;have y5:=yb.c5;have y6:=yb.c6;have y7:=yb.c7;have y8:=yb.c8;have y9:=yb.c9;have y10:=yb.c10;have y11:=yb.c11;have y12:=yb.c12;have yz:=yb.lt;have CW:=AQ q am b0 b1 b2 ak a0 a1 a2 nm cm m0 e0 m1 e1 m2 e2 ns cs n0 c0 n1 c1 n2 c2 lg sf sd keep N w2 (hN HB.out.symm);clear yb;go_wp2_with fail
   refine CW.mono ?_;rintro e w3 ⟨rfl,hb3⟩;have KB3:Hid (Bl W w3):=KB2.out.trans (hb3.mono KB2.out.size);have K3:Hid (Bl w w3):=K2.out.trans (hb3.mono K2.out.size);have HR3:=ar (HR2.out.keep hb3);have HLU3:=ar (HLU2.out.keep hb3);have HLV3:=ar (HLV2.out.keep hb3);clear hb3 CW y0 y1 y2 y3 y4 y5 y6 y7 y8 y9 y10 y11 y12 yz;have CA:=tT 0 (lg.extract 0 N) (N:Int) sd a0 a1 a2 n0 c0 n1 c1 n2 c2 U w3 HLU3.out (Nat.le_trans (by rw [ByteArray.size_extract];omega) HOU.out.bl) HOU.out.bu;go_wp2_with fail
   refine CA.mono ?_;rintro e w5 ⟨rm,rn,rv,rnv,rk,rns,rd,rnd,rx,rfl,hR5,hb5⟩;obtain ⟨lo5,hlo5⟩:=aw w3.heap.size;rw [← hlo5] at hR5;have HR5:=ar hR5;have HLO:Hid (X+1+1≤lo5∧w.heap.size≤lo5):=by have h1:=HR3.out.lt;have h2:=K3.out.size;rw [hlo5];exact ⟨h1,h2⟩
   have K5:Hid (Bl w w5):=K3.out.trans (hb5.mono K3.out.size);have HB5:=ar (HR3.out.keep hb5);clear hb5 hR5 CA hlo5;have r9:=HB5.out;have u0:=r9.c0;have u1:=r9.c1;have u2:=r9.c2;have u3:=r9.c3;have u4:=r9.c4;have u5:=r9.c5;have u6:=r9.c6;have u7:=r9.c7;have u8:=r9.c8;have uf:=r9.fz;have uz:=r9.lt;obtain ⟨wf,hwf⟩:=aw (((((((((w5.setCell ⟨X+1,0,none⟩ (.bool false)).setCell ⟨X+1,1,none⟩ (iT 0)).setCell ⟨X+1,2,none⟩ (.slice rm rn rn)).setCell ⟨X+1,3,none⟩ (.slice rv rnv rnv)).setCell ⟨X+1,4,none⟩ (.slice rk rns rns)).setCell ⟨X+1,5,none⟩ (.string (lg.extract 0 N))).setCell ⟨X+1,6,none⟩ (iT (N:Int))).setCell ⟨X+1,7,none⟩ (.slice rd rnd rnd)).setCell ⟨X+1,8,none⟩ (iT sd));have HRF:Hid (aA wf (X+1) (.bool false) (iT 0) (.slice rm rn rn) (.slice rv rnv rnv) (.slice rk rns rns) (.string (lg.extract 0 N)) (iT (N:Int)) (.slice rd rnd rnd) (iT sd)):=by rw [hwf];exact r9.sets (.bool false) (iT 0) (.slice rm rn rn) (.slice rv rnv rnv) (.slice rk rns rns) (.string (lg.extract 0 N)) (iT (N:Int)) (.slice rd rnd rnd) (iT sd)
   have KF:Hid (Bl w wf):=by rw [hwf];exact bh K5.out HX1L.out (.bool false) (iT 0) (.slice rm rn rn) (.slice rv rnv rnv) (.slice rk rns rns) (.string (lg.extract 0 N)) (iT (N:Int)) (.slice rd rnd rnd) (iT sd)
   have KO:Hid (aG (X+1) (X+1+1) w5 wf):=by rw [hwf];exact bY w5 (X+1) (.bool false) (iT 0) (.slice rm rn rn) (.slice rv rnv rnv) (.slice rk rns rns) (.string (lg.extract 0 N)) (iT (N:Int)) (.slice rd rnd rnd) (iT sd)
   have HWF:=ar hwf;clear hwf r9;go_wp2;rw [← HWF.out];refine bodyPost_ret (v:=.agg #[.bool false,iT 0,.slice rm rn rn,.slice rv rnv rnv,.slice rk rns rns,.string (lg.extract 0 N),iT (N:Int),.slice rd rnd rnd,iT sd]) ?_ rfl ?_
   · have e:=HRF.out;simp [results,Tryz.results32,go_sem,e.c0,e.c1,e.c2,e.c3,e.c4,e.c5,e.c6,e.c7,e.c8]
   · have h:=HB.out.symm;have r:=(HR5.out.keepO KO.out HLO.out.1).widen HLO.out.2 KO.out.size;have d:gU false 0 [] [] [] (lg.extract 0 N) (N:Int) sd U w (.returned (.agg #[.bool false,iT 0,.slice rm rn rn,.slice rv rnv rnv,.slice rk rns rns,.string (lg.extract 0 N),iT (N:Int),.slice rd rnd rnd,iT sd])) wf:=⟨rm,rn,rv,rnv,rk,rns,rd,rnd,rx,rfl,r,KF.out⟩;refine ⟨?_,?_,?_⟩
     · exact fun h'=>by rw [h] at h';exact Bool.noConfusion h'
     · exact fun _ _=>d
     · exact fun _ h'=>Bool.noConfusion h'
  | false =>
   obtain ⟨a0,a1,a2,n0,c0,n1,c1,n2,c2,hLU,hdn,hup⟩:=HOK.out rfl;obtain rfl:=hdn rfl;have HLU:=ar hLU;clear hLU hdn hup HOK;go_upto_region 2 with fail
   obtain ⟨Y,hY⟩:=aw w1.heap.size;obtain ⟨w2,hww2⟩:=aw (w1.alloc (.cells #[.bool false,iT 0,nZ,nZ,nZ,nZ,nZ,.string lg,iT sf,.slice a0 n0 c0,.slice a1 n1 c1,.slice a2 n2 c2,iT sd] 68));have kw2:Bl w1 w2:=by rw [hww2];exact bZ
   have HBY:Hid (aC w2 Y (.bool false) (iT 0) nZ nZ nZ nZ nZ (.string lg) (iT sf) (.slice a0 n0 c0) (.slice a1 n1 c1) (.slice a2 n2 c2) (iT sd)):=by rw [hww2,hY];exact aC.new _ _ _ _ _ _ _ _ _ _ _ _ _ _ _
   have KB2:Hid (Bl W w2):=KB1.out.trans (kw2.mono KB1.out.size);have K2:Hid (Bl w w2):=K1.out.trans (kw2.mono K1.out.size);have HR2:=ar (HR1.out.keep kw2);have HLU2:=ar (HLU.out.keep kw2);rw [← hww2];try rw [← hY]
   clear hww2 hY kw2;have yb:=HBY.out;have y0:=yb.c0;have y1:=yb.c1;have y2:=yb.c2;have y3:=yb.c3;have y4:=yb.c4;have y5:=yb.c5;have y6:=yb.c6;have y7:=yb.c7;have y8:=yb.c8;have y9:=yb.c9;have y10:=yb.c10;have y11:=yb.c11;have y12:=yb.c12;have yz:=yb.lt;have CW:=yV a0 a1 a2 n0 c0 n1 c1 n2 c2 lg sf sd keep w2;clear yb;go_wp2_with fail
   refine CW.mono ?_;rintro e w3 ⟨rfl,hb3⟩;have KB3:Hid (Bl W w3):=KB2.out.trans (hb3.mono KB2.out.size);have K3:Hid (Bl w w3):=K2.out.trans (hb3.mono K2.out.size);have HR3:=ar (HR2.out.keep hb3);have HLU3:=ar (HLU2.out.keep hb3);clear hb3 CW y0 y1 y2 y3 y4 y5 y6 y7 y8 y9 y10 y11 y12 yz;have CA:=tT 0 lg sf sd a0 a1 a2 n0 c0 n1 c1 n2 c2 U w3 HLU3.out HOU.out.bl HOU.out.bu;go_wp2_with fail
   refine CA.mono ?_;rintro e w5 ⟨rm,rn,rv,rnv,rk,rns,rd,rnd,rx,rfl,hR5,hb5⟩;obtain ⟨lo5,hlo5⟩:=aw w3.heap.size;rw [← hlo5] at hR5;have HR5:=ar hR5;have HLO:Hid (X+1+1≤lo5∧w.heap.size≤lo5):=by have h1:=HR3.out.lt;have h2:=K3.out.size;rw [hlo5];exact ⟨h1,h2⟩
   have K5:Hid (Bl w w5):=K3.out.trans (hb5.mono K3.out.size);have HB5:=ar (HR3.out.keep hb5);clear hb5 hR5 CA hlo5;have r9:=HB5.out;have u0:=r9.c0;have u1:=r9.c1;have u2:=r9.c2;have u3:=r9.c3;have u4:=r9.c4;have u5:=r9.c5;have u6:=r9.c6;have u7:=r9.c7;have u8:=r9.c8;have uf:=r9.fz;have uz:=r9.lt;obtain ⟨wf,hwf⟩:=aw (((((((((w5.setCell ⟨X+1,0,none⟩ (.bool false)).setCell ⟨X+1,1,none⟩ (iT 0)).setCell ⟨X+1,2,none⟩ (.slice rm rn rn)).setCell ⟨X+1,3,none⟩ (.slice rv rnv rnv)).setCell ⟨X+1,4,none⟩ (.slice rk rns rns)).setCell ⟨X+1,5,none⟩ (.string lg)).setCell ⟨X+1,6,none⟩ (iT sf)).setCell ⟨X+1,7,none⟩ (.slice rd rnd rnd)).setCell ⟨X+1,8,none⟩ (iT sd));have HRF:Hid (aA wf (X+1) (.bool false) (iT 0) (.slice rm rn rn) (.slice rv rnv rnv) (.slice rk rns rns) (.string lg) (iT sf) (.slice rd rnd rnd) (iT sd)):=by rw [hwf];exact r9.sets (.bool false) (iT 0) (.slice rm rn rn) (.slice rv rnv rnv) (.slice rk rns rns) (.string lg) (iT sf) (.slice rd rnd rnd) (iT sd)
   have KF:Hid (Bl w wf):=by rw [hwf];exact bh K5.out HX1L.out (.bool false) (iT 0) (.slice rm rn rn) (.slice rv rnv rnv) (.slice rk rns rns) (.string lg) (iT sf) (.slice rd rnd rnd) (iT sd)
   have KO:Hid (aG (X+1) (X+1+1) w5 wf):=by rw [hwf];exact bY w5 (X+1) (.bool false) (iT 0) (.slice rm rn rn) (.slice rv rnv rnv) (.slice rk rns rns) (.string lg) (iT sf) (.slice rd rnd rnd) (iT sd)
   have HWF:=ar hwf;clear hwf r9;go_wp2;rw [← HWF.out];refine bodyPost_ret (v:=.agg #[.bool false,iT 0,.slice rm rn rn,.slice rv rnv rnv,.slice rk rns rns,.string lg,iT sf,.slice rd rnd rnd,iT sd]) ?_ rfl ?_
   · have e:=HRF.out;simp [results,Tryz.results32,go_sem,e.c0,e.c1,e.c2,e.c3,e.c4,e.c5,e.c6,e.c7,e.c8]
   · have h:=HB.out.symm;have r:=(HR5.out.keepO KO.out HLO.out.1).widen HLO.out.2 KO.out.size;have d:gU false 0 [] [] [] lg sf sd U w (.returned (.agg #[.bool false,iT 0,.slice rm rn rn,.slice rv rnv rnv,.slice rk rns rns,.string lg,iT sf,.slice rd rnd rnd,iT sd])) wf:=⟨rm,rn,rv,rnv,rk,rns,rd,rnd,rx,rfl,r,KF.out⟩;refine ⟨?_,?_,?_⟩
     · exact fun h'=>by rw [h] at h';exact Bool.noConfusion h'
     · exact fun _ h'=>Bool.noConfusion h'
     · exact fun _ _=>d
end Go.Proofs.YtgpcinihgofmfaaGreatDoor
