/-
  What the program's work and fall make of a shared store, by walks of their Go text.
-/
import Derived.Test.YtgpcinihgofmfaaGreatDoorSt44
import Derived.Test.YtgpcinihgofmfaaGreatDoorSt40
import Derived.Test.YtgpcinihgofmfaaGreatDoorSt12
import Derived.Test.YtgpcinihgofmfaaGreatDoorSt39
import Derived.Test.YtgpcinihgofmfaaGreatDoorSt42
namespace Go.Proofs.YtgpcinihgofmfaaGreatDoor
open Go.RowKit
set_option maxRecDepth 100000
set_option maxHeartbeats 8000000
theorem xe (a0 a1 a2:Option Addr) (n0 c0 n1 c1 n2 c2:Nat) (lg:ByteArray) (sf sd:Int) (w:World) :
 Calls Tryz.prog 49 #[.agg #[.bool false,iT 0,nZ,nZ,nZ,nZ,nZ,.string lg,iT sf,.slice a0 n0 c0,.slice a1 n1 c1,.slice a2 n2 c2,iT sd],.func (.func 24) #[] #[]] w fun e w'=>e=.returned (.tuple #[.agg #[.bool false,iT 0,nZ,nZ,nZ,nZ,nZ,.string lg,iT sf,.slice a0 n0 c0,.slice a1 n1 c1,.slice a2 n2 c2,iT sd],.bool false])∧Bl w w':=by
 obtain ⟨X,hX⟩:=aw w.heap.size;obtain ⟨W,hW⟩:=aw ((w.alloc (.cells #[.bool false,iT 0,nZ,nZ,nZ,nZ,nZ,.string lg,iT sf,.slice a0 n0 c0,.slice a1 n1 c1,.slice a2 n2 c2,iT sd] 68)).alloc (.cells #[.bool false,iT 0,nZ,nZ,nZ,nZ,nZ,.string ⟨#[]⟩,iT 0,nZ,nZ,nZ,iT 0] 68));have kW:Bl w W:=by rw [hW];exact bZ.alloc (by simp) _
 have bx:aC W X (.bool false) (iT 0) nZ nZ nZ nZ nZ (.string lg) (iT sf) (.slice a0 n0 c0) (.slice a1 n1 c1) (.slice a2 n2 c2) (iT sd):=by rw [hW,hX];exact (aC.new _ _ _ _ _ _ _ _ _ _ _ _ _ _ _).alloc _
 have br:aC W (X+1) (.bool false) (iT 0) nZ nZ nZ nZ nZ (.string ⟨#[]⟩) (iT 0) nZ nZ nZ (iT 0):=by
  have:=aC.new (w.alloc (.cells #[.bool false,iT 0,nZ,nZ,nZ,nZ,nZ,.string lg,iT sf,.slice a0 n0 c0,.slice a1 n1 c1,.slice a2 n2 c2,iT sd] 68)) 68 (.bool false) (iT 0) nZ nZ nZ nZ nZ (.string ⟨#[]⟩) (iT 0) nZ nZ nZ (iT 0);rw [World.size_alloc] at this;rw [hW,hX];exact this
 have HXW:=ar hX;have HKW:=ar kW;have HBX:=ar bx;have HBR:=ar br;have x0:=bx.c0;have x1:=bx.c1;have x2:=bx.c2;have x3:=bx.c3;have x4:=bx.c4;have x5:=bx.c5;have x6:=bx.c6;have x7:=bx.c7;have x8:=bx.c8;have x9:=bx.c9;have x10:=bx.c10;have x11:=bx.c11;have x12:=bx.c12;have xz:=bx.lt;clear kW bx br;go_enter Tryz.func49,Tryz.ntmps49
 go_upto_region 1 with fail
 rw [← hX,← hW];clear hX hW;have r9:=HBR.out;have u0:=r9.c0;have u1:=r9.c1;have u2:=r9.c2;have u3:=r9.c3;have u4:=r9.c4;have u5:=r9.c5;have u6:=r9.c6;have u7:=r9.c7;have u8:=r9.c8;have u9:=r9.c9;have u10:=r9.c10;have u11:=r9.c11;have u12:=r9.c12;have uf:=r9.fz;have uz:=r9.lt;obtain ⟨wf,hwf⟩:=aw (((((((((((((W.setCell ⟨X+1,0,none⟩ (.bool false)).setCell ⟨X+1,1,none⟩ (iT 0)).setCell ⟨X+1,2,none⟩ nZ).setCell ⟨X+1,3,none⟩ nZ).setCell ⟨X+1,4,none⟩ nZ).setCell ⟨X+1,5,none⟩ nZ).setCell ⟨X+1,6,none⟩ nZ).setCell ⟨X+1,7,none⟩ (.string lg)).setCell ⟨X+1,8,none⟩ (iT sf)).setCell ⟨X+1,9,none⟩ (.slice a0 n0 c0)).setCell ⟨X+1,10,none⟩ (.slice a1 n1 c1)).setCell ⟨X+1,11,none⟩ (.slice a2 n2 c2)).setCell ⟨X+1,12,none⟩ (iT sd));have HRF:Hid (aC wf (X+1) (.bool false) (iT 0) nZ nZ nZ nZ nZ (.string lg) (iT sf) (.slice a0 n0 c0) (.slice a1 n1 c1) (.slice a2 n2 c2) (iT sd)):=by rw [hwf];exact r9.sets (.bool false) (iT 0) nZ nZ nZ nZ nZ (.string lg) (iT sf) (.slice a0 n0 c0) (.slice a1 n1 c1) (.slice a2 n2 c2) (iT sd)
 have KF:Hid (Bl w wf):=by rw [hwf];exact bX HKW.out (by have:=HXW.out;omega) (.bool false) (iT 0) nZ nZ nZ nZ nZ (.string lg) (iT sf) (.slice a0 n0 c0) (.slice a1 n1 c1) (.slice a2 n2 c2) (iT sd)
 have HWF:=ar hwf;clear hwf r9;go_wp2;rw [← HWF.out];refine bodyPost_ret (v:=.tuple #[.agg #[.bool false,iT 0,nZ,nZ,nZ,nZ,nZ,.string lg,iT sf,.slice a0 n0 c0,.slice a1 n1 c1,.slice a2 n2 c2,iT sd],.bool false]) ?_ rfl ⟨rfl,KF.out⟩;have e:=HRF.out;simp [results,Tryz.results49,go_sem,e.c0,e.c1,e.c2,e.c3,e.c4,e.c5,e.c6,e.c7,e.c8,e.c9,e.c10,e.c11,e.c12]
theorem yV (a0 a1 a2:Option Addr) (n0 c0 n1 c1 n2 c2:Nat) (lg:ByteArray) (sf sd:Int) (keep:Int) (w:World) :
 Calls Tryz.prog 62 #[.agg #[.bool false,iT 0,nZ,nZ,nZ,nZ,nZ,.string lg,iT sf,.slice a0 n0 c0,.slice a1 n1 c1,.slice a2 n2 c2,iT sd],iT keep,.func (.func 33) #[] #[]] w fun e w'=>e=.returned (.agg #[.bool false,iT 0,nZ,nZ,nZ,nZ,nZ,.string lg,iT sf,.slice a0 n0 c0,.slice a1 n1 c1,.slice a2 n2 c2,iT sd])∧Bl w w':=by
 obtain ⟨X,hX⟩:=aw w.heap.size;obtain ⟨W,hW⟩:=aw ((w.alloc (.cells #[.bool false,iT 0,nZ,nZ,nZ,nZ,nZ,.string lg,iT sf,.slice a0 n0 c0,.slice a1 n1 c1,.slice a2 n2 c2,iT sd] 68)).alloc (.cells #[.bool false,iT 0,nZ,nZ,nZ,nZ,nZ,.string ⟨#[]⟩,iT 0,nZ,nZ,nZ,iT 0] 68));have kW:Bl w W:=by rw [hW];exact bZ.alloc (by simp) _
 have bx:aC W X (.bool false) (iT 0) nZ nZ nZ nZ nZ (.string lg) (iT sf) (.slice a0 n0 c0) (.slice a1 n1 c1) (.slice a2 n2 c2) (iT sd):=by rw [hW,hX];exact (aC.new _ _ _ _ _ _ _ _ _ _ _ _ _ _ _).alloc _
 have br:aC W (X+1) (.bool false) (iT 0) nZ nZ nZ nZ nZ (.string ⟨#[]⟩) (iT 0) nZ nZ nZ (iT 0):=by
  have:=aC.new (w.alloc (.cells #[.bool false,iT 0,nZ,nZ,nZ,nZ,nZ,.string lg,iT sf,.slice a0 n0 c0,.slice a1 n1 c1,.slice a2 n2 c2,iT sd] 68)) 68 (.bool false) (iT 0) nZ nZ nZ nZ nZ (.string ⟨#[]⟩) (iT 0) nZ nZ nZ (iT 0);rw [World.size_alloc] at this;rw [hW,hX];exact this
 have HXW:=ar hX;have HKW:=ar kW;have HBX:=ar bx;have HBR:=ar br;have x0:=bx.c0;have x1:=bx.c1;have x2:=bx.c2;have x3:=bx.c3;have x4:=bx.c4;have x5:=bx.c5;have x6:=bx.c6;have x7:=bx.c7;have x8:=bx.c8;have x9:=bx.c9;have x10:=bx.c10;have x11:=bx.c11;have x12:=bx.c12;have xz:=bx.lt;clear kW bx br;go_enter Tryz.func62,Tryz.ntmps62
 go_upto_region 1 with fail
 rw [← hX,← hW];clear hX hW;have r9:=HBR.out;have u0:=r9.c0;have u1:=r9.c1;have u2:=r9.c2;have u3:=r9.c3;have u4:=r9.c4;have u5:=r9.c5;have u6:=r9.c6;have u7:=r9.c7;have u8:=r9.c8;have u9:=r9.c9;have u10:=r9.c10;have u11:=r9.c11;have u12:=r9.c12;have uf:=r9.fz;have uz:=r9.lt;obtain ⟨wf,hwf⟩:=aw (((((((((((((W.setCell ⟨X+1,0,none⟩ (.bool false)).setCell ⟨X+1,1,none⟩ (iT 0)).setCell ⟨X+1,2,none⟩ nZ).setCell ⟨X+1,3,none⟩ nZ).setCell ⟨X+1,4,none⟩ nZ).setCell ⟨X+1,5,none⟩ nZ).setCell ⟨X+1,6,none⟩ nZ).setCell ⟨X+1,7,none⟩ (.string lg)).setCell ⟨X+1,8,none⟩ (iT sf)).setCell ⟨X+1,9,none⟩ (.slice a0 n0 c0)).setCell ⟨X+1,10,none⟩ (.slice a1 n1 c1)).setCell ⟨X+1,11,none⟩ (.slice a2 n2 c2)).setCell ⟨X+1,12,none⟩ (iT sd));have HRF:Hid (aC wf (X+1) (.bool false) (iT 0) nZ nZ nZ nZ nZ (.string lg) (iT sf) (.slice a0 n0 c0) (.slice a1 n1 c1) (.slice a2 n2 c2) (iT sd)):=by rw [hwf];exact r9.sets (.bool false) (iT 0) nZ nZ nZ nZ nZ (.string lg) (iT sf) (.slice a0 n0 c0) (.slice a1 n1 c1) (.slice a2 n2 c2) (iT sd)
 have KF:Hid (Bl w wf):=by rw [hwf];exact bX HKW.out (by have:=HXW.out;omega) (.bool false) (iT 0) nZ nZ nZ nZ nZ (.string lg) (iT sf) (.slice a0 n0 c0) (.slice a1 n1 c1) (.slice a2 n2 c2) (iT sd)
 have HWF:=ar hwf;clear hwf r9;go_wp2;rw [← HWF.out];refine bodyPost_ret (v:=.agg #[.bool false,iT 0,nZ,nZ,nZ,nZ,nZ,.string lg,iT sf,.slice a0 n0 c0,.slice a1 n1 c1,.slice a2 n2 c2,iT sd]) ?_ rfl ⟨rfl,KF.out⟩;have e:=HRF.out;simp [results,Tryz.results62,go_sem,e.c0,e.c1,e.c2,e.c3,e.c4,e.c5,e.c6,e.c7,e.c8,e.c9,e.c10,e.c11,e.c12]
theorem AF (q:Int) (am b0 b1 b2 ak a0 a1 a2:Option Addr) (nm cm m0 e0 m1 e1 m2 e2 ns cs n0 c0 n1 c1 n2 c2:Nat) (lg:ByteArray) (sf sd:Int) (w:World) (h12:lg.size≤12000) :
 Calls Tryz.prog 49 #[.agg #[.bool true,iT q,.slice am nm cm,.slice b0 m0 e0,.slice b1 m1 e1,.slice b2 m2 e2,.slice ak ns cs,.string lg,iT sf,.slice a0 n0 c0,.slice a1 n1 c1,.slice a2 n2 c2,iT sd],.func (.func 24) #[] #[]] w fun e w'=>e=.returned (.tuple #[.agg #[.bool true,iT q,.slice am nm cm,.slice b0 m0 e0,.slice b1 m1 e1,.slice b2 m2 e2,.slice ak ns cs,.string lg,iT (lg.size:Int),.slice a0 n0 c0,.slice a1 n1 c1,.slice a2 n2 c2,iT sd],.bool true])∧Bl w w':=by
 obtain ⟨X,hX⟩:=aw w.heap.size;obtain ⟨W,hW⟩:=aw ((w.alloc (.cells #[.bool true,iT q,.slice am nm cm,.slice b0 m0 e0,.slice b1 m1 e1,.slice b2 m2 e2,.slice ak ns cs,.string lg,iT sf,.slice a0 n0 c0,.slice a1 n1 c1,.slice a2 n2 c2,iT sd] 68)).alloc (.cells #[.bool false,iT 0,nZ,nZ,nZ,nZ,nZ,.string ⟨#[]⟩,iT 0,nZ,nZ,nZ,iT 0] 68));have kW:Bl w W:=by rw [hW];exact bZ.alloc (by simp) _
 have bx:aC W X (.bool true) (iT q) (.slice am nm cm) (.slice b0 m0 e0) (.slice b1 m1 e1) (.slice b2 m2 e2) (.slice ak ns cs) (.string lg) (iT sf) (.slice a0 n0 c0) (.slice a1 n1 c1) (.slice a2 n2 c2) (iT sd):=by rw [hW,hX];exact (aC.new _ _ _ _ _ _ _ _ _ _ _ _ _ _ _).alloc _
 have br:aC W (X+1) (.bool false) (iT 0) nZ nZ nZ nZ nZ (.string ⟨#[]⟩) (iT 0) nZ nZ nZ (iT 0):=by
  have:=aC.new (w.alloc (.cells #[.bool true,iT q,.slice am nm cm,.slice b0 m0 e0,.slice b1 m1 e1,.slice b2 m2 e2,.slice ak ns cs,.string lg,iT sf,.slice a0 n0 c0,.slice a1 n1 c1,.slice a2 n2 c2,iT sd] 68)) 68 (.bool false) (iT 0) nZ nZ nZ nZ nZ (.string ⟨#[]⟩) (iT 0) nZ nZ nZ (iT 0);rw [World.size_alloc] at this;rw [hW,hX];exact this
 have HXW:=ar hX;have HKW:=ar kW;have HBX:=ar bx;have HBR:=ar br;have h12I:¬(lg.size:Int) > 12000:=by omega
 have CS:=uK q am b0 b1 b2 ak nm cm m0 e0 m1 e1 m2 e2 ns cs W;have x0:=bx.c0;have x1:=bx.c1;have x2:=bx.c2;have x3:=bx.c3;have x4:=bx.c4;have x5:=bx.c5;have x6:=bx.c6;have x7:=bx.c7;have x8:=bx.c8;have x9:=bx.c9;have x10:=bx.c10;have x11:=bx.c11;have x12:=bx.c12;have xz:=bx.lt;clear kW bx br h12;go_enter Tryz.func49,Tryz.ntmps49
 go_upto_region 1 with fail
 rw [← hX,← hW];clear hX hW;go_wp2_with fail
 refine CS.mono ?_;rintro e w1 ⟨r,rfl,hr,hb1⟩;have HR1:=ar hr;have HB1:=ar hb1;clear CS hr hb1 x0 x1 x2 x3 x4 x5 x6 x7 x8 x9 x10 x11 x12 xz;go_upto_region 4 with fail
 obtain ⟨Y,hY⟩:=aw w1.heap.size;obtain ⟨w2,hw2⟩:=aw (w1.alloc (.cells #[iT q,.slice am nm cm,.slice b0 m0 e0,.slice b1 m1 e1,.slice b2 m2 e2,.slice ak ns cs] 64));have k2:Bl w1 w2:=by rw [hw2];exact bZ
 have HY2:Hid (aV w2 Y (iT q) (.slice am nm cm) (.slice b0 m0 e0) (.slice b1 m1 e1) (.slice b2 m2 e2) (.slice ak ns cs)):=by rw [hw2,hY];exact aV.new _ _ _ _ _ _ _ _
 have KB2:Hid (Bl W w2):=HB1.out.trans (k2.mono HB1.out.size);have HR2:=ar (cell_later k2 HR1.out);rw [← hw2];try rw [← hY]
 clear hw2 hY k2 HR1 HB1;have x2:=HBX.out.keep KB2.out;have y7:=x2.c7;have y8:=x2.c8;have y9:=x2.c9;have y10:=x2.c10;have y11:=x2.c11;have y12:=x2.c12;have yz:=x2.lt;have CA:=tV r lg (iT sf) a0 a1 a2 n0 c0 n1 c1 n2 c2 sd w2 HR2.out;clear x2;go_wp2_with fail
 refine CA.mono ?_;rintro e w3 ⟨rfl,hb3⟩;have KB3:Hid (Bl W w3):=KB2.out.trans (hb3.mono KB2.out.size);have HY3:=ar (HY2.out.keep hb3);clear CA hb3 KB2 HY2 HR2 y7 y8 y9 y10 y11 y12 yz;go_upto_region 5 with fail
 obtain ⟨Z,hZ⟩:=aw w3.heap.size;obtain ⟨w4,hw4⟩:=aw (w3.alloc (.cells #[.string lg,iT (lg.size:Int),.slice a0 n0 c0,.slice a1 n1 c1,.slice a2 n2 c2,iT sd] 66));have k4:Bl w3 w4:=by rw [hw4];exact bZ
 have HZ4:Hid (aV w4 Z (.string lg) (iT (lg.size:Int)) (.slice a0 n0 c0) (.slice a1 n1 c1) (.slice a2 n2 c2) (iT sd)):=by rw [hw4,hZ];exact aV.new _ _ _ _ _ _ _ _
 have HY4:=ar (HY3.out.keep k4);have KB4:Hid (Bl W w4):=KB3.out.trans (k4.mono KB3.out.size);have K4:Hid (Bl w w4):=HKW.out.trans (KB4.out.mono HKW.out.size);have HX4:=ar (HBX.out.keep KB4.out);have HR4:=ar (HBR.out.keep KB4.out);rw [← hw4];try rw [← hZ]
 clear hw4 hZ k4 HY3 KB3;have y4:=HY4.out;have z4:=HZ4.out;have x4:=HX4.out;have g0:=x4.c0;have gz:=x4.lt;have p0:=y4.c0;have p1:=y4.c1;have p2:=y4.c2;have p3:=y4.c3;have p4:=y4.c4;have p5:=y4.c5;have pz:=y4.lt;have t0:=z4.c0;have t1:=z4.c1;have t2:=z4.c2;have t3:=z4.c3;have t4:=z4.c4;have t5:=z4.c5;have tz:=z4.lt;clear y4 z4 x4;have r9:=HR4.out;have u0:=r9.c0;have u1:=r9.c1;have u2:=r9.c2;have u3:=r9.c3;have u4:=r9.c4;have u5:=r9.c5;have u6:=r9.c6;have u7:=r9.c7;have u8:=r9.c8;have u9:=r9.c9;have u10:=r9.c10;have u11:=r9.c11;have u12:=r9.c12;have uf:=r9.fz;have uz:=r9.lt;obtain ⟨wf,hwf⟩:=aw (((((((((((((w4.setCell ⟨X+1,0,none⟩ (.bool true)).setCell ⟨X+1,1,none⟩ (iT q)).setCell ⟨X+1,2,none⟩ (.slice am nm cm)).setCell ⟨X+1,3,none⟩ (.slice b0 m0 e0)).setCell ⟨X+1,4,none⟩ (.slice b1 m1 e1)).setCell ⟨X+1,5,none⟩ (.slice b2 m2 e2)).setCell ⟨X+1,6,none⟩ (.slice ak ns cs)).setCell ⟨X+1,7,none⟩ (.string lg)).setCell ⟨X+1,8,none⟩ (iT (lg.size:Int))).setCell ⟨X+1,9,none⟩ (.slice a0 n0 c0)).setCell ⟨X+1,10,none⟩ (.slice a1 n1 c1)).setCell ⟨X+1,11,none⟩ (.slice a2 n2 c2)).setCell ⟨X+1,12,none⟩ (iT sd));have HRF:Hid (aC wf (X+1) (.bool true) (iT q) (.slice am nm cm) (.slice b0 m0 e0) (.slice b1 m1 e1) (.slice b2 m2 e2) (.slice ak ns cs) (.string lg) (iT (lg.size:Int)) (.slice a0 n0 c0) (.slice a1 n1 c1) (.slice a2 n2 c2) (iT sd)):=by rw [hwf];exact r9.sets (.bool true) (iT q) (.slice am nm cm) (.slice b0 m0 e0) (.slice b1 m1 e1) (.slice b2 m2 e2) (.slice ak ns cs) (.string lg) (iT (lg.size:Int)) (.slice a0 n0 c0) (.slice a1 n1 c1) (.slice a2 n2 c2) (iT sd)
 have KF:Hid (Bl w wf):=by rw [hwf];exact bX K4.out (by have:=HXW.out;omega) (.bool true) (iT q) (.slice am nm cm) (.slice b0 m0 e0) (.slice b1 m1 e1) (.slice b2 m2 e2) (.slice ak ns cs) (.string lg) (iT (lg.size:Int)) (.slice a0 n0 c0) (.slice a1 n1 c1) (.slice a2 n2 c2) (iT sd)
 have HWF:=ar hwf;clear hwf r9;go_wp2;rw [← HWF.out];refine bodyPost_ret (v:=.tuple #[.agg #[.bool true,iT q,.slice am nm cm,.slice b0 m0 e0,.slice b1 m1 e1,.slice b2 m2 e2,.slice ak ns cs,.string lg,iT (lg.size:Int),.slice a0 n0 c0,.slice a1 n1 c1,.slice a2 n2 c2,iT sd],.bool true]) ?_ rfl ⟨rfl,KF.out⟩;have e:=HRF.out;simp [results,Tryz.results49,go_sem,e.c0,e.c1,e.c2,e.c3,e.c4,e.c5,e.c6,e.c7,e.c8,e.c9,e.c10,e.c11,e.c12]
theorem AQ (q:Int) (am b0 b1 b2 ak a0 a1 a2:Option Addr) (nm cm m0 e0 m1 e1 m2 e2 ns cs n0 c0 n1 c1 n2 c2:Nat) (lg:ByteArray) (sf sd:Int) (keep:Int) (N:Nat) (w:World) (hN:nS lg sf keep N) :
 Calls Tryz.prog 62 #[.agg #[.bool true,iT q,.slice am nm cm,.slice b0 m0 e0,.slice b1 m1 e1,.slice b2 m2 e2,.slice ak ns cs,.string lg,iT sf,.slice a0 n0 c0,.slice a1 n1 c1,.slice a2 n2 c2,iT sd],iT keep,.func (.func 33) #[] #[]] w fun e w'=>e=.returned (.agg #[.bool false,iT 0,nZ,nZ,nZ,nZ,nZ,.string (lg.extract 0 N),iT (N:Int),.slice a0 n0 c0,.slice a1 n1 c1,.slice a2 n2 c2,iT sd])∧Bl w w':=by
 obtain ⟨X,hX⟩:=aw w.heap.size;obtain ⟨W,hW⟩:=aw ((w.alloc (.cells #[.bool true,iT q,.slice am nm cm,.slice b0 m0 e0,.slice b1 m1 e1,.slice b2 m2 e2,.slice ak ns cs,.string lg,iT sf,.slice a0 n0 c0,.slice a1 n1 c1,.slice a2 n2 c2,iT sd] 68)).alloc (.cells #[.bool false,iT 0,nZ,nZ,nZ,nZ,nZ,.string ⟨#[]⟩,iT 0,nZ,nZ,nZ,iT 0] 68));have kW:Bl w W:=by rw [hW];exact bZ.alloc (by simp) _
 have bx:aC W X (.bool true) (iT q) (.slice am nm cm) (.slice b0 m0 e0) (.slice b1 m1 e1) (.slice b2 m2 e2) (.slice ak ns cs) (.string lg) (iT sf) (.slice a0 n0 c0) (.slice a1 n1 c1) (.slice a2 n2 c2) (iT sd):=by rw [hW,hX];exact (aC.new _ _ _ _ _ _ _ _ _ _ _ _ _ _ _).alloc _
 have br:aC W (X+1) (.bool false) (iT 0) nZ nZ nZ nZ nZ (.string ⟨#[]⟩) (iT 0) nZ nZ nZ (iT 0):=by
  have:=aC.new (w.alloc (.cells #[.bool true,iT q,.slice am nm cm,.slice b0 m0 e0,.slice b1 m1 e1,.slice b2 m2 e2,.slice ak ns cs,.string lg,iT sf,.slice a0 n0 c0,.slice a1 n1 c1,.slice a2 n2 c2,iT sd] 68)) 68 (.bool false) (iT 0) nZ nZ nZ nZ nZ (.string ⟨#[]⟩) (iT 0) nZ nZ nZ (iT 0);rw [World.size_alloc] at this;rw [hW,hX];exact this
 have HXW:=ar hX;have HKW:=ar kW;have HBX:=ar bx;have HBR:=ar br;have CS:=ri q am b0 b1 b2 ak nm cm m0 e0 m1 e1 m2 e2 ns cs W;have x0:=bx.c0;have x1:=bx.c1;have x2:=bx.c2;have x3:=bx.c3;have x4:=bx.c4;have x5:=bx.c5;have x6:=bx.c6;have x7:=bx.c7;have x8:=bx.c8;have x9:=bx.c9;have x10:=bx.c10;have x11:=bx.c11;have x12:=bx.c12;have xz:=bx.lt;clear kW bx br;go_enter Tryz.func62,Tryz.ntmps62
 go_upto_region 1 with fail
 rw [← hX,← hW];clear hX hW;go_wp2_with fail
 refine CS.mono ?_;rintro e w1 ⟨rfl,hb1⟩;have KB1:=ar hb1;clear CS hb1 x0 x1 x2 x3 x4 x5 x6 x7 x8 x9 x10 x11 x12 xz;go_wp2_with fail
 refine (pV keep w1).mono ?_;rintro e w2 ⟨b,rfl,hcb,hb2⟩;have KB2:Hid (Bl W w2):=KB1.out.trans (hb2.mono KB1.out.size);have HCB:=ar hcb;clear hb2 hcb KB1;go_upto_region 4 with fail
 obtain ⟨C,hC⟩:=aw ((Question.appendCap 1 0 109).cut (w2.tape w2.drawn (Question.appendCap 1 0 109)));rw [← hC];obtain ⟨Zc,hZc⟩:=aw (Builtin.zeroCells #[Value.nilFunc] (C - 1));rw [← hZc];clear hC hZc;obtain ⟨u,hu⟩:=aw (w2.alloc (.cells #[.func (.func 129) #[] #[.pointer (pT b)]] 109));have hus:u.heap.size=w2.heap.size+1:=by rw [hu];simp
 have ku:Bl w2 u:=by rw [hu];exact bZ
 rw [← hu,← hus];obtain ⟨w3,hw3⟩:=aw (u.alloc (.cells (#[.func (.func 129) #[] #[.pointer (pT b)]]++Zc) 109)).drew;have k3:Bl w2 w3:=by rw [hw3];exact (ku.alloc ku.size _).drew
 have hr:w3.cell? ⟨u.heap.size,0,none⟩=some (.func (.func 129) #[] #[.pointer (pT b)]):=by
  rw [hw3];simp;rw [Array.getElem?_append_left (by simp)];rfl
 obtain ⟨r,hrr⟩:=aw u.heap.size;rw [← hw3,← hrr];rw [← hrr] at hr;have HR:=ar hr;have HCB3:=ar (cell_later k3 HCB.out);have KB3:Hid (Bl W w3):=KB2.out.trans (k3.mono KB2.out.size);have x3:=HBX.out.keep KB3.out;have y7:=x3.c7;have y8:=x3.c8;have y9:=x3.c9;have y10:=x3.c10;have y11:=x3.c11;have y12:=x3.c12;have yz:=x3.lt;have CA:=sk r b C keep N lg sf a0 a1 a2 n0 c0 n1 c1 n2 c2 sd w3 HCB3.out hN HR.out;clear x3 hw3 hrr hr hu hus ku k3 HCB KB2;go_wp2_with fail
 refine CA.mono ?_;rintro e w4 ⟨rfl,hb4⟩;have KB4:Hid (Bl W w4):=KB3.out.trans (hb4.mono KB3.out.size);have K4:Hid (Bl w w4):=HKW.out.trans (KB4.out.mono HKW.out.size);have HR4:=ar (HBR.out.keep KB4.out);clear CA hb4 y7 y8 y9 y10 y11 y12 yz;have r9:=HR4.out;have u0:=r9.c0;have u1:=r9.c1;have u2:=r9.c2;have u3:=r9.c3;have u4:=r9.c4;have u5:=r9.c5;have u6:=r9.c6;have u7:=r9.c7;have u8:=r9.c8;have u9:=r9.c9;have u10:=r9.c10;have u11:=r9.c11;have u12:=r9.c12;have uf:=r9.fz;have uz:=r9.lt;obtain ⟨wf,hwf⟩:=aw (((((((((((((w4.setCell ⟨X+1,0,none⟩ (.bool false)).setCell ⟨X+1,1,none⟩ (iT 0)).setCell ⟨X+1,2,none⟩ nZ).setCell ⟨X+1,3,none⟩ nZ).setCell ⟨X+1,4,none⟩ nZ).setCell ⟨X+1,5,none⟩ nZ).setCell ⟨X+1,6,none⟩ nZ).setCell ⟨X+1,7,none⟩ (.string (lg.extract 0 N))).setCell ⟨X+1,8,none⟩ (iT (N:Int))).setCell ⟨X+1,9,none⟩ (.slice a0 n0 c0)).setCell ⟨X+1,10,none⟩ (.slice a1 n1 c1)).setCell ⟨X+1,11,none⟩ (.slice a2 n2 c2)).setCell ⟨X+1,12,none⟩ (iT sd));have HRF:Hid (aC wf (X+1) (.bool false) (iT 0) nZ nZ nZ nZ nZ (.string (lg.extract 0 N)) (iT (N:Int)) (.slice a0 n0 c0) (.slice a1 n1 c1) (.slice a2 n2 c2) (iT sd)):=by rw [hwf];exact r9.sets (.bool false) (iT 0) nZ nZ nZ nZ nZ (.string (lg.extract 0 N)) (iT (N:Int)) (.slice a0 n0 c0) (.slice a1 n1 c1) (.slice a2 n2 c2) (iT sd)
 have KF:Hid (Bl w wf):=by rw [hwf];exact bX K4.out (by have:=HXW.out;omega) (.bool false) (iT 0) nZ nZ nZ nZ nZ (.string (lg.extract 0 N)) (iT (N:Int)) (.slice a0 n0 c0) (.slice a1 n1 c1) (.slice a2 n2 c2) (iT sd)
 have HWF:=ar hwf;clear hwf r9;go_wp2;rw [← HWF.out];refine bodyPost_ret (v:=.agg #[.bool false,iT 0,nZ,nZ,nZ,nZ,nZ,.string (lg.extract 0 N),iT (N:Int),.slice a0 n0 c0,.slice a1 n1 c1,.slice a2 n2 c2,iT sd]) ?_ rfl ⟨rfl,KF.out⟩;have e:=HRF.out;simp [results,Tryz.results62,go_sem,e.c0,e.c1,e.c2,e.c3,e.c4,e.c5,e.c6,e.c7,e.c8,e.c9,e.c10,e.c11,e.c12]
end Go.Proofs.YtgpcinihgofmfaaGreatDoor

namespace Go.Proofs.YtgpcinihgofmfaaGreatDoor
open Go.RowKit
structure tX (M:List ae) (V:List (List aj)) (S:List Int) (lg:ByteArray) (U:List (List aj)):Prop where
 bm:M.length≤1048576
 bk:S.length≤1048576
 em:qy M
 bv:∀B ∈ V,eF B∧eu B
 bl:lg.size≤281474976710656
 bu:∀B ∈ U,eF B∧eu B
theorem iF.upper {lo hi hi' nm nv ns:Nat} {am av ak:Option Addr} {w:World} {M:List ae} {V:List (List aj)} {S:List Int} {gs bs:Nat→Nat} {es:Nat→Nat→Nat} (h:iF lo hi w am nm av nv ak ns M V S gs bs es) (h2:hi≤hi'):iF lo hi' w am nm av nv ak ns M V S gs bs es:=by
 rcases h with ⟨b1,b2,b3,h1,h2',h3,h4⟩ | h
 · exact .inl ⟨b1,b2,b3,h1,h2',h3,h4.upper h2⟩
 · exact .inr h
theorem gQ.lower {lo hi lo' nd:Nat} {d:Option Addr} {w:World} {U:List (List aj)} {gd bd:Nat→Nat} {ed:Nat→Nat→Nat} (h:gQ lo hi w d nd U gd bd ed) (h1:lo'≤lo):gQ lo' hi w d nd U gd bd ed:=by
 rcases h with ⟨b,h2,h3⟩ | h
 · exact .inl ⟨b,h2,h3.lower h1 (Nat.le_refl _)⟩
 · exact .inr h
theorem e9.widen {lo hi lo' hi' nm nv ns nd:Nat} {am av ak d:Option Addr} {w:World} {M:List ae} {V:List (List aj)} {S:List Int} {U:List (List aj)} {x:Wh} (h:e9 lo hi w am nm av nv ak ns d nd M V S U x) (h1:lo'≤lo) (h2:hi≤hi'):e9 lo' hi' w am nm av nv ak ns d nd M V S U x :=
 ⟨⟨Nat.le_trans h1 h.ord.1,Nat.le_trans h.ord.2 h2⟩,h.tree.upper h2,h.disk.lower h1⟩
theorem mQ (lo hi:Nat) (w:World) (h:lo≤hi):e9 lo hi w none 0 none 0 none 0 none 0 [] [] [] [] ⟨lo,fun _=>0,fun _=>0,fun _ _=>0,fun _=>0,fun _=>0,fun _ _=>0⟩ :=
 ⟨⟨Nat.le_refl _,h⟩,.inr ⟨rfl,rfl,rfl,rfl,rfl,rfl,rfl,rfl,rfl⟩,.inr ⟨rfl,rfl,rfl⟩⟩
theorem us (lo:Nat) (lg:ByteArray) (sf sd:Int) (a0 a1 a2:Option Addr) (n0 c0 n1 c1 n2 c2:Nat) (U:List (List aj)) (w:World) (h:uy lo w a0 n0 c0 a1 n1 c1 a2 n2 c2 U) (hl:lg.size≤281474976710656) (hb:∀B ∈ U,eF B∧eu B) :
 Calls Tryz.prog 76 #[.agg #[.string lg,iT sf,.slice a0 n0 c0,.slice a1 n1 c1,.slice a2 n2 c2,iT sd]] w (Ay lg sf sd U w):=by
 obtain ⟨A,B,C,rfl,h0,h1,h2⟩:=h;exact zC lo lg sf sd a0 a1 a2 n0 c0 n1 c1 n2 c2 A B C w h0 h1 h2 hl (hb A (by simp)).1 (hb B (by simp)).1 (hb C (by simp)).1 (hb A (by simp)).2 (hb B (by simp)).2 (hb C (by simp)).2
theorem AT (lo:Nat) (q:Int) (am ak:Option Addr) (nm cm nk ck:Nat) (a0 a1 a2:Option Addr) (n0 c0 n1 c1 n2 c2:Nat) (M:List ae) (V:List (List aj)) (S:List Int) (lg:ByteArray) (sf sd:Int) (d0 d1 d2:Option Addr) (m0 e0 m1 e1 m2 e2:Nat) (U:List (List aj)) (w:World)
 (hM:au w am nm cm M) (hS:bC lo w ak nk ck S) (hV:uy lo w a0 n0 c0 a1 n1 c1 a2 n2 c2 V) (hU:uy lo w d0 m0 e0 d1 m1 e1 d2 m2 e2 U) (ho:tX M V S lg U) :
 Calls Tryz.prog 37 #[.agg #[.bool true,iT q,.slice am nm cm,.slice a0 n0 c0,.slice a1 n1 c1,.slice a2 n2 c2,.slice ak nk ck,.string lg,iT sf,.slice d0 m0 e0,.slice d1 m1 e1,.slice d2 m2 e2,iT sd]] w (gU true q M V S lg sf sd U w):=by
 obtain ⟨A,B,C,rfl,h0,h1,h2⟩:=hV;refine (pu true q am ak nm cm nk ck a0 a1 a2 n0 c0 n1 c1 n2 c2 M A B C S lg sf sd d0 d1 d2 m0 e0 m1 e1 m2 e2 U w
  (fun w' k=>si lo q am ak nm cm nk ck a0 a1 a2 n0 c0 n1 c1 n2 c2 M A B C S w' (hM.keep k) (hS.keep k) (h0.keep k) (h1.keep k) (h2.keep k) (by have:=hM.length;have:=ho.bm;omega) (by have:=hS.length;have:=ho.bk;omega) ho.em (ho.bv A (by simp)).1 (ho.bv B (by simp)).1 (ho.bv C (by simp)).1 (ho.bv A (by simp)).2 (ho.bv B (by simp)).2 (ho.bv C (by simp)).2)
  (fun w' k=>us lo lg sf sd d0 d1 d2 m0 e0 m1 e1 m2 e2 U w' (hU.keep k) ho.bl ho.bu)).mono ?_
 rintro e w' ⟨h,_⟩;obtain ⟨eb,vb,sb,ub,m,gs,bs,es,gd,bd,ed,rfl,h3,h4,h5,h6⟩:=h rfl;exact ⟨_,_,_,_,_,_,_,_,⟨m,gs,bs,es,gd,bd,ed⟩,rfl,⟨h5,.inl ⟨eb,vb,sb,rfl,rfl,rfl,h4⟩,.inl ⟨ub,rfl,h3⟩⟩,h6⟩
theorem mM (lo:Nat) (w:World):aE lo w none 0 0 []:=⟨rfl,Nat.le_refl _,Nat.zero_le _,fun _=>rfl,(fun x e=>by cases e),(fun x e=>by cases e)⟩
theorem tT (lo:Nat) (lg:ByteArray) (sf sd:Int) (d0 d1 d2:Option Addr) (m0 e0 m1 e1 m2 e2:Nat) (U:List (List aj)) (w:World) (hU:uy lo w d0 m0 e0 d1 m1 e1 d2 m2 e2 U) (hl:lg.size≤281474976710656) (hb:∀B ∈ U,eF B∧eu B) :
 Calls Tryz.prog 37 #[.agg #[.bool false,iT 0,nZ,nZ,nZ,nZ,nZ,.string lg,iT sf,.slice d0 m0 e0,.slice d1 m1 e1,.slice d2 m2 e2,iT sd]] w (gU false 0 [] [] [] lg sf sd U w):=by
 have hn:eF []∧eu []:=⟨⟨by simp,(fun p hp=>by cases hp)⟩,(fun p hp=>by cases hp)⟩;refine (pu false 0 none none 0 0 0 0 none none none 0 0 0 0 0 0 [] [] [] [] [] lg sf sd d0 d1 d2 m0 e0 m1 e1 m2 e2 U w
  (fun w' _=>si 0 0 none none 0 0 0 0 none none none 0 0 0 0 0 0 [] [] [] [] [] w' (kQ w' _) (fw 0 w' _) (mM 0 w') (mM 0 w') (mM 0 w') (by omega) (by omega) (fun e he=>by cases he) hn.1 hn.1 hn.1 hn.2 hn.2 hn.2)
  (fun w' k=>us lo lg sf sd d0 d1 d2 m0 e0 m1 e1 m2 e2 U w' (hU.keep k) hl hb)).mono ?_
 rintro e w' ⟨_,h⟩;obtain ⟨ub,gd,bd,ed,rfl,h3,h4⟩:=h rfl;exact ⟨_,_,_,_,_,_,_,_,⟨w'.heap.size,fun _=>0,fun _=>0,fun _ _=>0,gd,bd,ed⟩,rfl,⟨⟨h4.size,Nat.le_refl _⟩,.inr ⟨rfl,rfl,rfl,rfl,rfl,rfl,rfl,rfl,rfl⟩,.inl ⟨ub,rfl,h3⟩⟩,h4⟩
end Go.Proofs.YtgpcinihgofmfaaGreatDoor

namespace Go.Proofs.YtgpcinihgofmfaaGreatDoor
open Go.RowKit
structure Aw (B:Nat) (w:World):Prop where
 e:fX B w
 t:jI B w
theorem Aw.at {w w':World} (h:Aw w.heap.size w) (hb:Bl w w'):Aw w'.heap.size w' :=
 ⟨fun x hx=>h.e x (hb.trans (hx.mono hb.size)),fun x hx=>h.t x (hb.trans (hx.mono hb.size))⟩
theorem eT {M:List ae} {V:List (List aj)} {S:List Int} {U:List (List aj)} (hM:M.length≤1048576) (hV:kg V+V.length≤1048576) (hS:S.length≤1048576) (hU:kg U+U.length≤1048576):pC M V S U:=by
 have h1:=jd V;have h2:=jd U;have hs:∀{V:List (List aj)},kg V+V.length≤1048576→∀B ∈ V,B.length≤1048576∧∀p ∈ B,p.1.length≤1048576:=fun {V} h B hB=>by
  have h3:=pF hB;exact ⟨by omega,fun p hp=>by have:=tY hp;omega⟩
 exact ⟨⟨hM,by omega,hs hV,hS,by omega⟩,by omega,hs hU,by omega⟩
theorem qx.outS {M:List ae} {V:List (List aj)} {S:List Int} {lg:ByteArray} {U:List (List aj)} (h:qx M V S lg U):tX M V S lg U:=by
 have hs:=h.small;have h1:=h.1;exact ⟨by omega,by omega,h.2.1,fun B hB=>⟨hs.1.2.1.2 B hB,h.2.2.1 B hB⟩,by omega,fun B hB=>⟨hs.2.2 B hB,h.2.2.2 B hB⟩⟩
end Go.Proofs.YtgpcinihgofmfaaGreatDoor
