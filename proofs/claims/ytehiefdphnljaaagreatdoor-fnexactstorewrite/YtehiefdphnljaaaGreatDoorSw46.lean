/- Walks. -/
import Derived.Test.YtehiefdphnljaaaGreatDoorSw45
namespace Go.Proofs.YtehiefdphnljaaaGreatDoor
set_option maxRecDepth 100000
set_option maxHeartbeats 40000000
open Go.RowKit
def qx (up:Bool) (q:Int) (M:List ae) (V:List (List aq)) (S:List Int) (lg:ByteArray) (sf sd:Int) (U:List (List aq)) (b:Bool) (w:World) (e:Ending) (w':World):Prop :=
 ∃am nm av nv ak ns d nd x,e=.returned (.tuple #[.agg #[.bool up,iT q,.slice am nm nm,.slice av nv nv,.slice ak ns ns,.string lg,iT sf,.slice d nd nd,iT sd],.bool b])∧fV w.heap.size w'.heap.size w' am nm av nv ak ns d nd M V S U x∧Bl w w'
def B6 (up:Bool) (q:Int) (M:List ae) (V:List (List aq)) (S:List Int) (lg:ByteArray) (sf sd:Int) (U:List (List aq)) (P:List (List ae)) (k:Nat) (K:List ae) (w:World) (e:Ending) (w':World):Prop:=Cj (lI up q M V S lg sf sd U P k) up (qx false 0 [] [] [] ⟨#[]⟩ 0 0 [] false w e w') (∃zq zM zl,Bz (dl true q M K lg) q M K lg zq zM zl∧qx true zq zM V S zl sf sd U (dl true q M K lg) w e w') (qx false 0 [] [] [] lg sf sd U false w e w')
theorem pA (bq:Nat) (ab:Option Addr) (nb cb:Nat) (K:List ae) (up:Bool) (q:Int) (am av ak dv:Option Addr) (nm cm nv cv ns cs nd cd:Nat) (M:List ae) (V:List (List aq)) (S:List Int) (lg:ByteArray) (sf sd:Int) (U:List (List aq)) (P:List (List ae)) (k:Nat) (w:World) (hT:aX 0 w am nm cm av nv cv ak ns cs M V S) (hU:au 0 w dv nd cd U) (hlg:lg.size≤1048576) (hE:iy w.heap.size w) (hTB:kQ w.heap.size w) (hw:ce lg.data.toList P k) (ho:AT M V S lg U) (hK:an w ab nb cb K) (hbq:w.cell? ⟨bq,0,none⟩=some (.slice ab nb cb)) (hnb:nb≤1048576) :
 Calls Tryz.prog 24 #[.agg #[.bool up,iT q,.slice am nm cm,.slice av nv cv,.slice ak ns cs,.string lg,iT sf,.slice dv nd cd,iT sd],.func (.func 50) #[] #[.pointer (pT bq)]] w (B6 up q M V S lg sf sd U P k K w):=by
 obtain ⟨X,hX⟩:=aw w.heap.size;obtain ⟨W,hW⟩:=aw ((w.alloc (.cells #[.bool up,iT q,.slice am nm cm,.slice av nv cv,.slice ak ns cs,.string lg,iT sf,.slice dv nd cd,iT sd] 40)).alloc (.cells #[.bool false,iT 0,nZ,nZ,nZ,.string ⟨#[]⟩,iT 0,nZ,iT 0] 40));have kW:Bl w W:=by rw [hW];exact bZ.alloc (by simp) _
 have bx:aC W X (.bool up) (iT q) (.slice am nm cm) (.slice av nv cv) (.slice ak ns cs) (.string lg) (iT sf) (.slice dv nd cd) (iT sd):=by rw [hW,hX];exact (aC.new _ _ _ _ _ _ _ _ _ _ _).alloc _
 have br:aC W (X+1) (.bool false) (iT 0) nZ nZ nZ (.string ⟨#[]⟩) (iT 0) nZ (iT 0):=by
  have:=aC.new (w.alloc (.cells #[.bool up,iT q,.slice am nm cm,.slice av nv cv,.slice ak ns cs,.string lg,iT sf,.slice dv nd cd,iT sd] 40)) 40 (.bool false) (iT 0) nZ nZ nZ (.string ⟨#[]⟩) (iT 0) nZ (iT 0);rw [World.size_alloc] at this;rw [hW,hX];exact this
 have HXW:=ar hX;have HKW:=ar kW;have HBX:=ar bx;have HBR:=ar br;have HT:=ar (hT.keep kW);have HU:=ar (hU.keep kW);have HOU:=ar ho;have HK:=ar hK;have HBQ:=ar hbq;have HNM:Hid (M.length=nm):=hT.mem.1.length;have HFW:Hid (∀w',Bl w w'→iy w'.heap.size w'∧kQ w'.heap.size w'):=fun w' k=>⟨fun x hx=>hE x (k.trans (hx.mono k.size)),fun x hx=>hTB x (k.trans (hx.mono k.size))⟩
 have HW:=ar hw;have CS:=nc 0 up q am av ak dv nm cm nv cv ns cs nd cd M V S lg sf sd U W HT.out HU.out hlg (HFW.out W kW).1 (HFW.out W kW).2;have x0:=bx.all;clear kW bx br hT hU hw ho hE hTB hK hbq;go_enter Tryz.func24,Tryz.ntmps24
 go_upto_region 1 with fail
 rw [← hX,← hW];clear hX hW;go_wp2_with fail
 refine CS.mono ?_;rintro e w1 ⟨vv,okb,rfl,hsv,hb,hb1,hok⟩;have hb:=hb P k HW.out;have HB:=ar hb;have HOK:=ar hok;have HSV:=ar hsv;have KB1:=ar hb1;have K1:Hid (Bl w w1):=HKW.out.trans (hb1.mono HKW.out.size);have HR1:=ar (HBR.out.keep hb1);have hx1:w.heap.size≤X+1:=by have:=HXW.out;omega
 have HX1L:=ar hx1;have HZ1:Hid (X+1<w1.heap.size):=HR1.out.lt;clear hb hb1 hok hsv CS x0 hx1;cases okb with
 | false =>
  obtain ⟨u1,z1,z2,z3,T1,p0,s0,t0,p1,s1,t1,p2,s2,t2,p3,s3,t3,p4,s4,t4,p5,s5,t5,p6,s6,t6,p7,s7,t7,rfl⟩:=HSV.out;clear HSV HOK;go_upto_region 2 with fail
  obtain ⟨Y,hY⟩:=aw w1.heap.size;obtain ⟨w2,hww2⟩:=aw (w1.alloc (.cells #[.bool u1,iT z1,.slice p0 s0 t0,.slice p1 s1 t1,.slice p2 s2 t2,.slice p3 s3 t3,.slice p4 s4 t4,.string T1,iT z2,.slice p5 s5 t5,.slice p6 s6 t6,.slice p7 s7 t7,iT z3] 90));have kw2:Bl w1 w2:=by rw [hww2];exact bZ
  have HBY:Hid (aH w2 Y (.bool u1) (iT z1) (.slice p0 s0 t0) (.slice p1 s1 t1) (.slice p2 s2 t2) (.slice p3 s3 t3) (.slice p4 s4 t4) (.string T1) (iT z2) (.slice p5 s5 t5) (.slice p6 s6 t6) (.slice p7 s7 t7) (iT z3)):=by rw [hww2,hY];exact aH.new _ _ _ _ _ _ _ _ _ _ _ _ _ _ _
  have K2:Hid (Bl w w2):=K1.out.trans (kw2.mono K1.out.size);have HR2:=ar (HR1.out.keep kw2);rw [← hww2];try rw [← hY]
  clear hww2 hY kw2;have yz:=HBY.out.lt;have r9:=HR2.out;have u0:=r9.all;obtain ⟨wf,hwf⟩:=aw (((((((((w2.setCell ⟨X+1,0,none⟩ (.bool false)).setCell ⟨X+1,1,none⟩ (iT 0)).setCell ⟨X+1,2,none⟩ nZ).setCell ⟨X+1,3,none⟩ nZ).setCell ⟨X+1,4,none⟩ nZ).setCell ⟨X+1,5,none⟩ (.string ⟨#[]⟩)).setCell ⟨X+1,6,none⟩ (iT 0)).setCell ⟨X+1,7,none⟩ nZ).setCell ⟨X+1,8,none⟩ (iT 0));have HRF:Hid (aC wf (X+1) (.bool false) (iT 0) nZ nZ nZ (.string ⟨#[]⟩) (iT 0) nZ (iT 0)):=by rw [hwf];exact r9.sets (.bool false) (iT 0) nZ nZ nZ (.string ⟨#[]⟩) (iT 0) nZ (iT 0)
  have KF:Hid (Bl w wf):=by rw [hwf];exact cq K2.out HX1L.out (.bool false) (iT 0) nZ nZ nZ (.string ⟨#[]⟩) (iT 0) nZ (iT 0)
  have KO:Hid (aI (X+1) (X+1+1) w2 wf):=by rw [hwf];exact dz w2 (X+1) (.bool false) (iT 0) nZ nZ nZ (.string ⟨#[]⟩) (iT 0) nZ (iT 0)
  have HWF:=ar hwf;clear hwf r9;go_wp2;rw [← HWF.out];refine bodyPost_ret (v:=.tuple #[.agg #[.bool false,iT 0,nZ,nZ,nZ,.string ⟨#[]⟩,iT 0,nZ,iT 0],.bool false]) ?_ rfl ?_
  · have e:=HRF.out;simp [results,Tryz.results24,go_sem,e.all]
  · have h:=HB.out.symm;have d:qx false 0 [] [] [] ⟨#[]⟩ 0 0 [] false w (.returned (.tuple #[.agg #[.bool false,iT 0,nZ,nZ,nZ,.string ⟨#[]⟩,iT 0,nZ,iT 0],.bool false])) wf:=⟨none,0,none,0,none,0,none,0,_,rfl,yG _ _ _ KF.out.size,KF.out⟩;refine ⟨?_,?_,?_⟩
    · exact fun _=>d
    · exact fun h'=>by rw [h] at h';exact Bool.noConfusion h'
    · exact fun h'=>by rw [h] at h';exact Bool.noConfusion h'
 | true =>
  have hD:=uq HB.out.symm;have HD:=ar hD;clear HSV;cases up with
  | true =>
   obtain ⟨a0,a1,a2,n0,c0,n1,c1,n2,c2,hLU,hdn,hup⟩:=HOK.out rfl;obtain ⟨b0,b1,b2,m0,e0,m1,e1,m2,e2,hLV,rfl⟩:=hup rfl;have HLV:=ar hLV;clear hLV;have HLU:=ar hLU;clear hLU hdn hup HOK;go_upto_region 2 with fail
   obtain ⟨Y,hY⟩:=aw w1.heap.size;obtain ⟨w2,hww2⟩:=aw (w1.alloc (.cells #[.bool true,iT q,.slice am nm cm,.slice b0 m0 e0,.slice b1 m1 e1,.slice b2 m2 e2,.slice ak ns cs,.string lg,iT sf,.slice a0 n0 c0,.slice a1 n1 c1,.slice a2 n2 c2,iT sd] 90));have kw2:Bl w1 w2:=by rw [hww2];exact bZ
   have HBY:Hid (aH w2 Y (.bool true) (iT q) (.slice am nm cm) (.slice b0 m0 e0) (.slice b1 m1 e1) (.slice b2 m2 e2) (.slice ak ns cs) (.string lg) (iT sf) (.slice a0 n0 c0) (.slice a1 n1 c1) (.slice a2 n2 c2) (iT sd)):=by rw [hww2,hY];exact aH.new _ _ _ _ _ _ _ _ _ _ _ _ _ _ _
   have KB2:Hid (Bl W w2):=KB1.out.trans (kw2.mono KB1.out.size);have K2:Hid (Bl w w2):=K1.out.trans (kw2.mono K1.out.size);have HR2:=ar (HR1.out.keep kw2);have HLU2:=ar (HLU.out.keep kw2);have HLV2:=ar (HLV.out.keep kw2);rw [← hww2];try rw [← hY]
   clear hww2 hY kw2;have yb:=HBY.out;have y0:=yb.all;have hV0:=xY HB.out.symm;obtain ⟨hq0,hq1,hm60,hr,_⟩:=bH hV0.1;obtain ⟨A,B,C,_,hl0,hl1,hl2⟩:=HLV2.out;have CW:=Bu bq q am b0 b1 b2 ak a0 a1 a2 nm cm m0 e0 m1 e1 m2 e2 ns cs n0 c0 n1 c1 n2 c2 lg sf sd M A B C S ab nb cb K w2 ⟨HT.out.mem.1.keep KB2.out,hl0,hl1,hl2,HT.out.snaps.keep KB2.out⟩ (HK.out.keep K2.out) (cell_later K2.out HBQ.out) hnb (by have:=HNM.out;omega) HOU.out.em hq0 hq1 (HFW.out w2 K2.out).2 (by have:=HD.out.2.1;omega);obtain ⟨zq,zM,zl,hZ⟩:=qy (dl true q M K lg) q M K lg;have HZ:=ar hZ;have HRM:=ar hr;clear yb hV0 hl0 hl1 hl2 hZ hr hm60 hq0 hq1;go_wp2_with fail
   refine CW.mono ?_;rintro e w3 hwk;have hex:∃zm zn zc,e=.returned (.tuple #[.agg #[.bool true,iT zq,.slice zm zn zc,.slice b0 m0 e0,.slice b1 m1 e1,.slice b2 m2 e2,.slice ak ns cs,.string zl,iT sf,.slice a0 n0 c0,.slice a1 n1 c1,.slice a2 n2 c2,iT sd],.bool (dl true q M K lg)])∧an w3 zm zn zc zM∧AT zM V S zl U∧Bl w2 w3:=by
    have ho:=HOU.out;cases hd:dl true q M K lg with
    | true =>
     obtain ⟨rfl,rfl,rfl⟩:=HZ.out.1 hd;obtain ⟨g,n,he,h1,h2⟩:=hwk.1 hd;obtain ⟨_,hw,h12⟩:=lX hd;rw [← lz HRM.out] at h1;exact ⟨_,_,_,he,h1,⟨by have:=pk HRM.out hw;omega,ho.bk,rU HRM.out hw,ho.bv,by omega,ho.bu⟩,h2⟩
    | false =>
     obtain ⟨rfl,rfl,rfl⟩:=HZ.out.2 hd;obtain ⟨he,h2⟩:=hwk.2 hd;exact ⟨_,_,_,he,HT.out.mem.1.keep (KB2.out.trans (h2.mono KB2.out.size)),ho,h2⟩
   obtain ⟨zm,zn,zc,rfl,hZM,hZO,hb3⟩:=hex;obtain ⟨O,hO⟩:=aw (dl true q M K lg);rw [← hO] at HZ ⊢;have HZM:=ar hZM;have HZO:=ar hZO;clear hwk hZM hZO;have KB3:Hid (Bl W w3):=KB2.out.trans (hb3.mono KB2.out.size);have K3:Hid (Bl w w3):=K2.out.trans (hb3.mono K2.out.size);have HR3:=ar (HR2.out.keep hb3);have HLU3:=ar (HLU2.out.keep hb3);have HLV3:=ar (HLV2.out.keep hb3);clear hb3 CW y0;go_upto_region 5 with fail
   obtain ⟨Z,hZ⟩:=aw w3.heap.size;obtain ⟨w4,hww4⟩:=aw (w3.alloc (.cells #[.bool true,iT zq,.slice zm zn zc,.slice b0 m0 e0,.slice b1 m1 e1,.slice b2 m2 e2,.slice ak ns cs,.string zl,iT sf,.slice a0 n0 c0,.slice a1 n1 c1,.slice a2 n2 c2,iT sd] 90));have kw4:Bl w3 w4:=by rw [hww4];exact bZ
   have HBZ:Hid (aH w4 Z (.bool true) (iT zq) (.slice zm zn zc) (.slice b0 m0 e0) (.slice b1 m1 e1) (.slice b2 m2 e2) (.slice ak ns cs) (.string zl) (iT sf) (.slice a0 n0 c0) (.slice a1 n1 c1) (.slice a2 n2 c2) (iT sd)):=by rw [hww4,hZ];exact aH.new _ _ _ _ _ _ _ _ _ _ _ _ _ _ _
   have KB4:Hid (Bl W w4):=KB3.out.trans (kw4.mono KB3.out.size);have K4:Hid (Bl w w4):=K3.out.trans (kw4.mono K3.out.size);have HR4:=ar (HR3.out.keep kw4);have HLU4:=ar (HLU3.out.keep kw4);have HLV4:=ar (HLV3.out.keep kw4);have kz4:=kw4;rw [← hww4];try rw [← hZ]
   clear hww4 hZ kw4;have zb:=HBZ.out;have y0:=zb.all;clear zb;have CA:=BQ 0 zq zm ak zn zc ns cs b0 b1 b2 m0 e0 m1 e1 m2 e2 zM V S zl sf sd a0 a1 a2 n0 c0 n1 c1 n2 c2 U w4 (HZM.out.keep kz4) (HT.out.snaps.keep KB4.out) HLV4.out HLU4.out HZO.out;go_wp2_with fail
   refine CA.mono ?_;rintro e w5 ⟨rm,rn,rv,rnv,rk,rns,rd,rnd,rx,rfl,hR5,hb5⟩;obtain ⟨lo5,hlo5⟩:=aw w4.heap.size;rw [← hlo5] at hR5;have HR5:=ar hR5;have HLO:Hid (X+1+1≤lo5∧w.heap.size≤lo5):=by have h1:=HR4.out.lt;have h2:=K4.out.size;rw [hlo5];exact ⟨h1,h2⟩
   have K5:Hid (Bl w w5):=K4.out.trans (hb5.mono K4.out.size);have HB5:=ar (HR4.out.keep hb5);clear hb5 hR5 CA hlo5 y0;have r9:=HB5.out;have u0:=r9.all;obtain ⟨wf,hwf⟩:=aw (((((((((w5.setCell ⟨X+1,0,none⟩ (.bool true)).setCell ⟨X+1,1,none⟩ (iT zq)).setCell ⟨X+1,2,none⟩ (.slice rm rn rn)).setCell ⟨X+1,3,none⟩ (.slice rv rnv rnv)).setCell ⟨X+1,4,none⟩ (.slice rk rns rns)).setCell ⟨X+1,5,none⟩ (.string zl)).setCell ⟨X+1,6,none⟩ (iT sf)).setCell ⟨X+1,7,none⟩ (.slice rd rnd rnd)).setCell ⟨X+1,8,none⟩ (iT sd));have HRF:Hid (aC wf (X+1) (.bool true) (iT zq) (.slice rm rn rn) (.slice rv rnv rnv) (.slice rk rns rns) (.string zl) (iT sf) (.slice rd rnd rnd) (iT sd)):=by rw [hwf];exact r9.sets (.bool true) (iT zq) (.slice rm rn rn) (.slice rv rnv rnv) (.slice rk rns rns) (.string zl) (iT sf) (.slice rd rnd rnd) (iT sd)
   have KF:Hid (Bl w wf):=by rw [hwf];exact cq K5.out HX1L.out (.bool true) (iT zq) (.slice rm rn rn) (.slice rv rnv rnv) (.slice rk rns rns) (.string zl) (iT sf) (.slice rd rnd rnd) (iT sd)
   have KO:Hid (aI (X+1) (X+1+1) w5 wf):=by rw [hwf];exact dz w5 (X+1) (.bool true) (iT zq) (.slice rm rn rn) (.slice rv rnv rnv) (.slice rk rns rns) (.string zl) (iT sf) (.slice rd rnd rnd) (iT sd)
   have HWF:=ar hwf;clear hwf r9;go_wp2;rw [← HWF.out];refine bodyPost_ret (v:=.tuple #[.agg #[.bool true,iT zq,.slice rm rn rn,.slice rv rnv rnv,.slice rk rns rns,.string zl,iT sf,.slice rd rnd rnd,iT sd],.bool O]) ?_ rfl ?_
   · have e:=HRF.out;simp [results,Tryz.results24,go_sem,e.all];exact hO.symm
   · have h:=HB.out.symm;have r:=(HR5.out.keepO KO.out HLO.out.1).widen HLO.out.2 KO.out.size;have d:qx true zq zM V S zl sf sd U O w (.returned (.tuple #[.agg #[.bool true,iT zq,.slice rm rn rn,.slice rv rnv rnv,.slice rk rns rns,.string zl,iT sf,.slice rd rnd rnd,iT sd],.bool O])) wf:=⟨rm,rn,rv,rnv,rk,rns,rd,rnd,rx,rfl,r,KF.out⟩;refine ⟨?_,?_,?_⟩
     · exact fun h'=>by rw [h] at h';exact Bool.noConfusion h'
     · exact fun _ _=>⟨zq,zM,zl,by rw [← hO];exact HZ.out,by rw [← hO];exact d⟩
     · exact fun _ h'=>Bool.noConfusion h'
  | false =>
   obtain ⟨a0,a1,a2,n0,c0,n1,c1,n2,c2,hLU,hdn,hup⟩:=HOK.out rfl;obtain rfl:=hdn rfl;have HLU:=ar hLU;clear hLU hdn hup HOK;go_upto_region 2 with fail
   obtain ⟨Y,hY⟩:=aw w1.heap.size;obtain ⟨w2,hww2⟩:=aw (w1.alloc (.cells #[.bool false,iT 0,nZ,nZ,nZ,nZ,nZ,.string lg,iT sf,.slice a0 n0 c0,.slice a1 n1 c1,.slice a2 n2 c2,iT sd] 90));have kw2:Bl w1 w2:=by rw [hww2];exact bZ
   have HBY:Hid (aH w2 Y (.bool false) (iT 0) nZ nZ nZ nZ nZ (.string lg) (iT sf) (.slice a0 n0 c0) (.slice a1 n1 c1) (.slice a2 n2 c2) (iT sd)):=by rw [hww2,hY];exact aH.new _ _ _ _ _ _ _ _ _ _ _ _ _ _ _
   have KB2:Hid (Bl W w2):=KB1.out.trans (kw2.mono KB1.out.size);have K2:Hid (Bl w w2):=K1.out.trans (kw2.mono K1.out.size);have HR2:=ar (HR1.out.keep kw2);have HLU2:=ar (HLU.out.keep kw2);rw [← hww2];try rw [← hY]
   clear hww2 hY kw2;have yb:=HBY.out;have y0:=yb.all;have CW:=An (.func (.func 50) #[] #[.pointer (pT bq)]) a0 a1 a2 n0 c0 n1 c1 n2 c2 lg sf sd w2;clear yb;go_wp2_with fail
   refine CW.mono ?_;rintro e w3 ⟨rfl,hb3⟩;have KB3:Hid (Bl W w3):=KB2.out.trans (hb3.mono KB2.out.size);have K3:Hid (Bl w w3):=K2.out.trans (hb3.mono K2.out.size);have HR3:=ar (HR2.out.keep hb3);have HLU3:=ar (HLU2.out.keep hb3);clear hb3 CW y0;go_upto_region 5 with fail
   obtain ⟨Z,hZ⟩:=aw w3.heap.size;obtain ⟨w4,hww4⟩:=aw (w3.alloc (.cells #[.bool false,iT 0,nZ,nZ,nZ,nZ,nZ,.string lg,iT sf,.slice a0 n0 c0,.slice a1 n1 c1,.slice a2 n2 c2,iT sd] 90));have kw4:Bl w3 w4:=by rw [hww4];exact bZ
   have HBZ:Hid (aH w4 Z (.bool false) (iT 0) nZ nZ nZ nZ nZ (.string lg) (iT sf) (.slice a0 n0 c0) (.slice a1 n1 c1) (.slice a2 n2 c2) (iT sd)):=by rw [hww4,hZ];exact aH.new _ _ _ _ _ _ _ _ _ _ _ _ _ _ _
   have KB4:Hid (Bl W w4):=KB3.out.trans (kw4.mono KB3.out.size);have K4:Hid (Bl w w4):=K3.out.trans (kw4.mono K3.out.size);have HR4:=ar (HR3.out.keep kw4);have HLU4:=ar (HLU3.out.keep kw4);rw [← hww4];try rw [← hZ]
   clear hww4 hZ kw4;have zb:=HBZ.out;have y0:=zb.all;clear zb;have CA:=Bm 0 lg sf sd a0 a1 a2 n0 c0 n1 c1 n2 c2 U w4 HLU4.out HOU.out.bl HOU.out.bu;go_wp2_with fail
   refine CA.mono ?_;rintro e w5 ⟨rm,rn,rv,rnv,rk,rns,rd,rnd,rx,rfl,hR5,hb5⟩;obtain ⟨lo5,hlo5⟩:=aw w4.heap.size;rw [← hlo5] at hR5;have HR5:=ar hR5;have HLO:Hid (X+1+1≤lo5∧w.heap.size≤lo5):=by have h1:=HR4.out.lt;have h2:=K4.out.size;rw [hlo5];exact ⟨h1,h2⟩
   have K5:Hid (Bl w w5):=K4.out.trans (hb5.mono K4.out.size);have HB5:=ar (HR4.out.keep hb5);clear hb5 hR5 CA hlo5 y0;have r9:=HB5.out;have u0:=r9.all;obtain ⟨wf,hwf⟩:=aw (((((((((w5.setCell ⟨X+1,0,none⟩ (.bool false)).setCell ⟨X+1,1,none⟩ (iT 0)).setCell ⟨X+1,2,none⟩ (.slice rm rn rn)).setCell ⟨X+1,3,none⟩ (.slice rv rnv rnv)).setCell ⟨X+1,4,none⟩ (.slice rk rns rns)).setCell ⟨X+1,5,none⟩ (.string lg)).setCell ⟨X+1,6,none⟩ (iT sf)).setCell ⟨X+1,7,none⟩ (.slice rd rnd rnd)).setCell ⟨X+1,8,none⟩ (iT sd));have HRF:Hid (aC wf (X+1) (.bool false) (iT 0) (.slice rm rn rn) (.slice rv rnv rnv) (.slice rk rns rns) (.string lg) (iT sf) (.slice rd rnd rnd) (iT sd)):=by rw [hwf];exact r9.sets (.bool false) (iT 0) (.slice rm rn rn) (.slice rv rnv rnv) (.slice rk rns rns) (.string lg) (iT sf) (.slice rd rnd rnd) (iT sd)
   have KF:Hid (Bl w wf):=by rw [hwf];exact cq K5.out HX1L.out (.bool false) (iT 0) (.slice rm rn rn) (.slice rv rnv rnv) (.slice rk rns rns) (.string lg) (iT sf) (.slice rd rnd rnd) (iT sd)
   have KO:Hid (aI (X+1) (X+1+1) w5 wf):=by rw [hwf];exact dz w5 (X+1) (.bool false) (iT 0) (.slice rm rn rn) (.slice rv rnv rnv) (.slice rk rns rns) (.string lg) (iT sf) (.slice rd rnd rnd) (iT sd)
   have HWF:=ar hwf;clear hwf r9;go_wp2;rw [← HWF.out];refine bodyPost_ret (v:=.tuple #[.agg #[.bool false,iT 0,.slice rm rn rn,.slice rv rnv rnv,.slice rk rns rns,.string lg,iT sf,.slice rd rnd rnd,iT sd],.bool false]) ?_ rfl ?_
   · have e:=HRF.out;simp [results,Tryz.results24,go_sem,e.all]
   · have h:=HB.out.symm;have r:=(HR5.out.keepO KO.out HLO.out.1).widen HLO.out.2 KO.out.size;have d:qx false 0 [] [] [] lg sf sd U false w (.returned (.tuple #[.agg #[.bool false,iT 0,.slice rm rn rn,.slice rv rnv rnv,.slice rk rns rns,.string lg,iT sf,.slice rd rnd rnd,iT sd],.bool false])) wf:=⟨rm,rn,rv,rnv,rk,rns,rd,rnd,rx,rfl,r,KF.out⟩;refine ⟨?_,?_,?_⟩
     · exact fun h'=>by rw [h] at h';exact Bool.noConfusion h'
     · exact fun _ h'=>Bool.noConfusion h'
     · exact fun _ _=>d
theorem gL (up:Bool) (q:Int) (am av ak dv:Option Addr) (nm cm nv cv ns cs nd cd:Nat) (lg:ByteArray) (sf sd:Int) (ab:Option Addr) (nb cb:Nat) (u:Bool) (z:Int) (M:List ae) (V:List (List aq)) (S:List Int) (T:ByteArray) (f d:Int) (U:List (List aq)) (b:Bool) (w:World) (HW:∀bq w',w'.cell? ⟨bq,0,none⟩=some (.slice ab nb cb)→Bl w w'→Calls Tryz.prog 24 #[.agg #[.bool up,iT q,.slice am nm cm,.slice av nv cv,.slice ak ns cs,.string lg,iT sf,.slice dv nd cd,iT sd],.func (.func 50) #[] #[.pointer (pT bq)]] w' (qx u z M V S T f d U b w')) :
 Calls Tryz.prog 9 #[.agg #[.bool up,iT q,.slice am nm cm,.slice av nv cv,.slice ak ns cs,.string lg,iT sf,.slice dv nd cd,iT sd],.slice ab nb cb] w (qx u z M V S T f d U b w):=by
 obtain ⟨X,hX⟩:=aw w.heap.size;obtain ⟨W,hW⟩:=aw ((w.alloc (.cells #[.bool up,iT q,.slice am nm cm,.slice av nv cv,.slice ak ns cs,.string lg,iT sf,.slice dv nd cd,iT sd] 40)).alloc (.cells #[.bool false,iT 0,nZ,nZ,nZ,.string ⟨#[]⟩,iT 0,nZ,iT 0] 40));have kW:Bl w W:=by rw [hW];exact bZ.alloc (by simp) _
 have bx:aC W X (.bool up) (iT q) (.slice am nm cm) (.slice av nv cv) (.slice ak ns cs) (.string lg) (iT sf) (.slice dv nd cd) (iT sd):=by rw [hW,hX];exact (aC.new _ _ _ _ _ _ _ _ _ _ _).alloc _
 have br:aC W (X+1) (.bool false) (iT 0) nZ nZ nZ (.string ⟨#[]⟩) (iT 0) nZ (iT 0):=by
  have:=aC.new (w.alloc (.cells #[.bool up,iT q,.slice am nm cm,.slice av nv cv,.slice ak ns cs,.string lg,iT sf,.slice dv nd cd,iT sd] 40)) 40 (.bool false) (iT 0) nZ nZ nZ (.string ⟨#[]⟩) (iT 0) nZ (iT 0);rw [World.size_alloc] at this;rw [hW,hX];exact this
 have HXW:=ar hX;have HKW:=ar kW;have HBX:=ar bx;have HBR:=ar br;have hx1:w.heap.size≤X+1:=by have:=HXW.out;omega
 have HX1L:=ar hx1;have HMK:Hid (∀w',Bl W w'→(w'.cell? ⟨X,0,none⟩=some (.bool up)∧w'.cell? ⟨X,1,none⟩=some (iT q)∧w'.cell? ⟨X,2,none⟩=some (.slice am nm cm)∧w'.cell? ⟨X,3,none⟩=some (.slice av nv cv)∧w'.cell? ⟨X,4,none⟩=some (.slice ak ns cs)∧w'.cell? ⟨X,5,none⟩=some (.string lg)∧w'.cell? ⟨X,6,none⟩=some (iT sf)∧w'.cell? ⟨X,7,none⟩=some (.slice dv nd cd)∧w'.cell? ⟨X,8,none⟩=some (iT sd)∧X<w'.heap.size)):=fun w' k=>by
  have b:=HBX.out.keep k;exact ⟨b.c0,b.c1,b.c2,b.c3,b.c4,b.c5,b.c6,b.c7,b.c8,b.lt⟩
 have k0:Bl W W.drew:=(Below.refl _ W).drew;clear kW bx br hx1;go_enter Tryz.func9,Tryz.ntmps9
 go_upto_region 1 with fail
 rw [← hX,← hW];clear hX hW;refine dC HMK k0 fun aa=>?_
 refine aK 0 2 aa ?_;refine aP 2 fun K hK=>?_
 go_simp;refine (sE ab nb cb W.drew).mono ?_;rintro e w1 ⟨bq,rfl,hbq,hb1⟩;have k1:Bl W w1:=k0.trans (hb1.mono k0.size);go_wp2_with fail
 refine hK.out _ _ (HMK.out _ k1) fun aa=>?_
 (try go_frame);refine aP 3 fun K hK=>?_
 go_simp;refine (HW bq w1 hbq (HKW.out.trans (k1.mono HKW.out.size))).mono ?_;rintro e w2 ⟨rm,rn,rv,rnv,rk,rns,rd,rnd,rx,rfl,hR2,hb2⟩;have k2:Bl W w2:=k1.trans (hb2.mono k1.size);go_wp2_with fail
 refine hK.out _ _ (HMK.out _ k2) fun aa=>?_
 (try go_frame);refine aK 4 2 aa ?_;have HB2:=ar (HBR.out.keep k2);have HX2:=ar (HBX.out.keep k2);have K2:Hid (Bl w w2):=HKW.out.trans (k2.mono HKW.out.size);have HLO:Hid (X+1+1≤w1.heap.size∧w.heap.size≤w1.heap.size):=⟨(HBR.out.keep k1).lt,Nat.le_trans HKW.out.size k1.size⟩;have HR2:=ar hR2;clear hb1 hb2 k1 k2 hbq hR2 HW;obtain ⟨wf,hwf⟩:=aw (((((((((w2.setCell ⟨X+1,0,none⟩ (.bool u)).setCell ⟨X+1,1,none⟩ (iT z)).setCell ⟨X+1,2,none⟩ (.slice rm rn rn)).setCell ⟨X+1,3,none⟩ (.slice rv rnv rnv)).setCell ⟨X+1,4,none⟩ (.slice rk rns rns)).setCell ⟨X+1,5,none⟩ (.string T)).setCell ⟨X+1,6,none⟩ (iT f)).setCell ⟨X+1,7,none⟩ (.slice rd rnd rnd)).setCell ⟨X+1,8,none⟩ (iT d));have HRF:Hid (aC wf (X+1) (.bool u) (iT z) (.slice rm rn rn) (.slice rv rnv rnv) (.slice rk rns rns) (.string T) (iT f) (.slice rd rnd rnd) (iT d)):=by rw [hwf];exact HB2.out.sets (.bool u) (iT z) (.slice rm rn rn) (.slice rv rnv rnv) (.slice rk rns rns) (.string T) (iT f) (.slice rd rnd rnd) (iT d)
 have KF:Hid (Bl w wf):=by rw [hwf];exact cq K2.out HX1L.out (.bool u) (iT z) (.slice rm rn rn) (.slice rv rnv rnv) (.slice rk rns rns) (.string T) (iT f) (.slice rd rnd rnd) (iT d)
 have KO:Hid (aI (X+1) (X+1+1) w2 wf):=by rw [hwf];exact dz w2 (X+1) (.bool u) (iT z) (.slice rm rn rn) (.slice rv rnv rnv) (.slice rk rns rns) (.string T) (iT f) (.slice rd rnd rnd) (iT d)
 have HXF:Hid (aC wf X (.bool up) (iT q) (.slice am nm cm) (.slice av nv cv) (.slice ak ns cs) (.string lg) (iT sf) (.slice dv nd cd) (iT sd)):=by
  have hne:X+1≠X:=by omega
  rw [hwf];exact ((((((((HX2.out.other hne _).other hne _).other hne _).other hne _).other hne _).other hne _).other hne _).other hne _).other hne _
 have u0:=HB2.out.all;refine aP 6 fun K hK=>?_
 go_simp;rw [← hwf];have yf:=HXF.out;refine hK.out _ _ ⟨yf.c0,yf.c1,yf.c2,yf.c3,yf.c4,yf.c5,yf.c6,yf.c7,yf.c8,yf.lt⟩ (fun aa=>?_);clear hK K yf u0 hwf;(try go_frame);refine aK 7 1 aa ?_;refine dN ?_;clear aa HMK k0;go_wp2;refine bodyPost_ret (v:=.tuple #[.agg #[.bool u,iT z,.slice rm rn rn,.slice rv rnv rnv,.slice rk rns rns,.string T,iT f,.slice rd rnd rnd,iT d],.bool b]) ?_ rfl ?_
 · have e:=HRF.out;simp [results,Tryz.results9,go_sem,e.all]
 · exact ⟨rm,rn,rv,rnv,rk,rns,rd,rnd,rx,rfl,(HR2.out.keepO KO.out HLO.out.1).widen HLO.out.2 KO.out.size,KF.out⟩
end Go.Proofs.YtehiefdphnljaaaGreatDoor
