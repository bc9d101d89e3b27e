/-
  What the document's l1Min and l6Fall answer, by walks of their Go text.
-/
import Derived.Test.YtgpcinihgofmfaaGreatDoorSt11
import Derived.Test.YtgpcinihgofmfaaGreatDoorSt10
import Derived.Test.YtgpcinihgofmfaaGreatDoorSt35
import Derived.Test.YtgpcinihgofmfaaGreatDoorSt37
namespace Go.Proofs.YtgpcinihgofmfaaGreatDoor
open Go.RowKit
set_option maxRecDepth 100000
set_option maxHeartbeats 8000000
theorem zR (a b:Int) (w:World):Calls Tryz.prog 61 #[iT a,iT b] w fun e w'=>e=.returned (iT (min a b))∧w'=w:=by
 by_cases h:a<b
 · have e:min a b=a:=by omega
   rw [e];go_enter Tryz.func61,Tryz.ntmps61
   go_wp2;go_ret;exact ⟨rfl,rfl⟩
 · have e:min a b=b:=by omega
   rw [e];go_enter Tryz.func61,Tryz.ntmps61
   go_wp2;go_ret;exact ⟨rfl,rfl⟩
def nS (lg:ByteArray) (sf keep:Int) (N:Nat):Prop:=(N:Int)=max sf (min keep (lg.size:Int))∧N≤lg.size
theorem AP {lg:ByteArray} {sf:Int} (keep:Int) (h0:0≤sf) (h1:sf≤(lg.size:Int)):∃N,nS lg sf keep N:=by
 refine ⟨(max sf (min keep (lg.size:Int))).toNat,?_,?_⟩
 · omega
 · omega
theorem xR (up:Bool) (q:Int) (am av ak dv:Option Addr) (nm cm nv cv ns cs nd cd:Nat) (lg:ByteArray) (sf sd keep:Int) (N:Nat) (w:World) (hN:nS lg sf keep N) :
 Calls Tryz.prog 31 #[.agg #[.bool up,iT q,.slice am nm cm,.slice av nv cv,.slice ak ns cs,.string lg,iT sf,.slice dv nd cd,iT sd],iT keep] w fun e w'=>e=.returned (.agg #[.bool false,iT 0,nZ,nZ,nZ,.string (lg.extract 0 N),iT (N:Int),.slice dv nd cd,iT sd])∧Bl w w':=by
 obtain ⟨hN1,hN2⟩:=hN;obtain ⟨X,hX⟩:=aw w.heap.size;obtain ⟨W,hW⟩:=aw ((w.alloc (.cells #[.bool up,iT q,.slice am nm cm,.slice av nv cv,.slice ak ns cs,.string lg,iT sf,.slice dv nd cd,iT sd] 39)).alloc (.cells #[.bool false,iT 0,nZ,nZ,nZ,.string ⟨#[]⟩,iT 0,nZ,iT 0] 39));have kW:Bl w W:=by rw [hW];exact bZ.alloc (by simp) _
 have bx:aA W X (.bool up) (iT q) (.slice am nm cm) (.slice av nv cv) (.slice ak ns cs) (.string lg) (iT sf) (.slice dv nd cd) (iT sd):=by rw [hW,hX];exact (aA.new _ _ _ _ _ _ _ _ _ _ _).alloc _
 have br:aA W (X+1) (.bool false) (iT 0) nZ nZ nZ (.string ⟨#[]⟩) (iT 0) nZ (iT 0):=by
  have:=aA.new (w.alloc (.cells #[.bool up,iT q,.slice am nm cm,.slice av nv cv,.slice ak ns cs,.string lg,iT sf,.slice dv nd cd,iT sd] 39)) 39 (.bool false) (iT 0) nZ nZ nZ (.string ⟨#[]⟩) (iT 0) nZ (iT 0);rw [World.size_alloc] at this;rw [hW,hX];exact this
 have HXW:=ar hX;have HBX:=ar bx;have HBR:=ar br;have HKW:=ar kW;have HMK:Hid (∀w',Bl W w'→(w'.cell? ⟨X,6,none⟩=some (iT sf)∧w'.cell? ⟨X,5,none⟩=some (.string lg)∧X<w'.heap.size)):=fun w' k=>⟨cell_later k bx.c6,cell_later k bx.c5,Nat.lt_of_lt_of_le bx.lt k.size⟩
 have k0:Bl W W.drew:=(Below.refl _ W).drew;clear kW bx br;go_enter Tryz.func31,Tryz.ntmps31
 go_upto_region 1 with fail
 rw [← hX,← hW];clear hX hW;refine dI HMK k0 fun aa=>?_
 refine aM 0 8 aa ?_;refine aR 8 fun K hK=>?_
 go_simp;refine (zR _ _ _).mono ?_;rintro e w1 ⟨rfl,rfl⟩;go_wp2_with fail
 refine hK.out _ _ (HMK.out _ k0) fun aa=>?_
 (try go_frame);refine aR 9 fun K hK=>?_
 go_simp;refine (ua _ _ _).mono ?_;rintro e w1 ⟨rfl,rfl⟩;go_wp2_with fail
 refine hK.out _ _ (HMK.out _ k0) fun aa=>?_
 (try go_frame);refine aM 10 1 aa ?_;refine dN ?_;rw [← hN1];have bx:=HBX.out.keep k0;have br:=HBR.out.keep k0;have KD:Hid (Bl w W.drew):=HKW.out.trans (k0.mono HKW.out.size);have hNI:(N:Int)≤(lg.size:Int):=by omega
 clear k0 HMK aa HBX HBR HKW hN1;generalize W.drew=wd at bx br KD ⊢;have x0:=bx.c0;have x1:=bx.c1;have x2:=bx.c2;have x3:=bx.c3;have x4:=bx.c4;have x5:=bx.c5;have x6:=bx.c6;have x7:=bx.c7;have x8:=bx.c8;have xf:=bx.fz;have xz:=bx.lt;go_upto_region 6 with fail
 obtain ⟨w2,hw2⟩:=aw (((((((wd.setCell ⟨X,0,none⟩ (.bool false)).setCell ⟨X,1,none⟩ (iT 0)).setCell ⟨X,2,none⟩ nZ).setCell ⟨X,3,none⟩ nZ).setCell ⟨X,4,none⟩ nZ).setCell ⟨X,5,none⟩ (.string (lg.extract 0 N))).setCell ⟨X,6,none⟩ (iT (N:Int)));have hne:X≠X+1:=by omega
 have hx:w.heap.size≤X:=by have:=HXW.out;omega
 have HX2:Hid (aA w2 X (.bool false) (iT 0) nZ nZ nZ (.string (lg.extract 0 N)) (iT (N:Int)) (.slice dv nd cd) (iT sd)):=by rw [hw2];exact ((((((bx.set0 _).set1 _).set2 _).set3 _).set4 _).set5 _).set6 _
 have HR2:Hid (aA w2 (X+1) (.bool false) (iT 0) nZ nZ nZ (.string ⟨#[]⟩) (iT 0) nZ (iT 0)):=by rw [hw2];exact ((((((br.other hne _).other hne _).other hne _).other hne _).other hne _).other hne _).other hne _
 have K2:Hid (Bl w w2):=by rw [hw2];exact (((nY KD.out hx _ _ _ _).setCell (p:=⟨X,4,none⟩) hx _).setCell (p:=⟨X,5,none⟩) hx _).setCell (p:=⟨X,6,none⟩) hx _
 rw [← hw2];clear hw2 bx br x0 x1 x2 x3 x4 x5 x6 x7 x8 xf xz;have b2:=HX2.out;have r2:=HR2.out;have p0:=b2.c0;have p1:=b2.c1;have p2:=b2.c2;have p3:=b2.c3;have p4:=b2.c4;have p5:=b2.c5;have p6:=b2.c6;have p7:=b2.c7;have p8:=b2.c8;have pz:=b2.lt;have u0:=r2.c0;have u1:=r2.c1;have u2:=r2.c2;have u3:=r2.c3;have u4:=r2.c4;have u5:=r2.c5;have u6:=r2.c6;have u7:=r2.c7;have u8:=r2.c8;have uf:=r2.fz;have uz:=r2.lt;obtain ⟨w3,hw3⟩:=aw (((((((((w2.setCell ⟨X+1,0,none⟩ (.bool false)).setCell ⟨X+1,1,none⟩ (iT 0)).setCell ⟨X+1,2,none⟩ nZ).setCell ⟨X+1,3,none⟩ nZ).setCell ⟨X+1,4,none⟩ nZ).setCell ⟨X+1,5,none⟩ (.string (lg.extract 0 N))).setCell ⟨X+1,6,none⟩ (iT (N:Int))).setCell ⟨X+1,7,none⟩ (.slice dv nd cd)).setCell ⟨X+1,8,none⟩ (iT sd));have HR3:Hid (aA w3 (X+1) (.bool false) (iT 0) nZ nZ nZ (.string (lg.extract 0 N)) (iT (N:Int)) (.slice dv nd cd) (iT sd)):=by rw [hw3];exact r2.sets (.bool false) (iT 0) nZ nZ nZ (.string (lg.extract 0 N)) (iT (N:Int)) (.slice dv nd cd) (iT sd)
 have K3:Hid (Bl w w3):=by rw [hw3];exact bh K2.out (by omega) (.bool false) (iT 0) nZ nZ nZ (.string (lg.extract 0 N)) (iT (N:Int)) (.slice dv nd cd) (iT sd)
 have HW3:=ar hw3;clear hw3 b2 r2;go_wp2;rw [← HW3.out];refine bodyPost_ret (v:=.agg #[.bool false,iT 0,nZ,nZ,nZ,.string (lg.extract 0 N),iT (N:Int),.slice dv nd cd,iT sd]) ?_ rfl ⟨rfl,K3.out⟩;have e:=HR3.out;simp [results,Tryz.results31,go_sem,e.c0,e.c1,e.c2,e.c3,e.c4,e.c5,e.c6,e.c7,e.c8]
end Go.Proofs.YtgpcinihgofmfaaGreatDoor

namespace Go.Proofs.YtgpcinihgofmfaaGreatDoor
open Go.RowKit
set_option maxRecDepth 100000
set_option maxHeartbeats 4000000
theorem aV.sets {w:World} {b:Nat} {v0 v1 v2 v3 v4 v5:Value} (h:aV w b v0 v1 v2 v3 v4 v5) (u0 u1 u2 u3 u4 u5:Value):aV ((((((w.setCell ⟨b,0,none⟩ u0).setCell ⟨b,1,none⟩ u1).setCell ⟨b,2,none⟩ u2).setCell ⟨b,3,none⟩ u3).setCell ⟨b,4,none⟩ u4).setCell ⟨b,5,none⟩ u5) b u0 u1 u2 u3 u4 u5 :=
 (((((h.set0 u0).set1 u1).set2 u2).set3 u3).set4 u4).set5 u5
theorem nJ {B:Nat} {w w':World} {P:Nat} (h:Below B w w') (hP:B≤P) (u0 u1 u2 u3 u4 u5:Value):Below B w ((((((w'.setCell ⟨P,0,none⟩ u0).setCell ⟨P,1,none⟩ u1).setCell ⟨P,2,none⟩ u2).setCell ⟨P,3,none⟩ u3).setCell ⟨P,4,none⟩ u4).setCell ⟨P,5,none⟩ u5) :=
 ((nY h hP u0 u1 u2 u3).setCell (p:=⟨P,4,none⟩) hP u4).setCell (p:=⟨P,5,none⟩) hP u5
theorem jK (lg:ByteArray) (sf:Value) (d0 d1 d2:Option Addr) (m0 e0 m1 e1 m2 e2:Nat) (sd:Int) (w:World) :
 Calls Tryz.prog 50 #[.agg #[.string lg,sf,.slice d0 m0 e0,.slice d1 m1 e1,.slice d2 m2 e2,iT sd]] w fun e w'=>e=.returned (.agg #[.string lg,iT (lg.size:Int),.slice d0 m0 e0,.slice d1 m1 e1,.slice d2 m2 e2,iT sd])∧Bl w w':=by
 obtain ⟨X,hX⟩:=aw w.heap.size;obtain ⟨W,hW⟩:=aw ((w.alloc (.cells #[.string lg,sf,.slice d0 m0 e0,.slice d1 m1 e1,.slice d2 m2 e2,iT sd] 66)).alloc (.cells #[.string ⟨#[]⟩,iT 0,nZ,nZ,nZ,iT 0] 66));have kW:Bl w W:=by rw [hW];exact bZ.alloc (by simp) _
 have bx:aV W X (.string lg) sf (.slice d0 m0 e0) (.slice d1 m1 e1) (.slice d2 m2 e2) (iT sd):=by rw [hW,hX];exact (aV.new _ _ _ _ _ _ _ _).alloc _
 have br:aV W (X+1) (.string ⟨#[]⟩) (iT 0) nZ nZ nZ (iT 0):=by
  have:=aV.new (w.alloc (.cells #[.string lg,sf,.slice d0 m0 e0,.slice d1 m1 e1,.slice d2 m2 e2,iT sd] 66)) 66 (.string ⟨#[]⟩) (iT 0) nZ nZ nZ (iT 0);rw [World.size_alloc] at this;rw [hW,hX];exact this
 have HXW:=ar hX;have HBX:=ar bx;have HBR:=ar br;have HKW:=ar kW;have x0:=bx.c0;have x1:=bx.c1;have xf:=bx.fz;have xz:=bx.lt;clear kW bx br;go_enter Tryz.func50,Tryz.ntmps50
 go_upto_region 1 with fail
 rw [← hX,← hW];clear hX hW;go_upto_region 2 with fail
 obtain ⟨w2,hw2⟩:=aw (W.setCell ⟨X,1,none⟩ (iT (lg.size:Int)));have hne:X≠X+1:=by omega
 have hx:w.heap.size≤X:=by have:=HXW.out;omega
 have HB2:Hid (aV w2 X (.string lg) (iT (lg.size:Int)) (.slice d0 m0 e0) (.slice d1 m1 e1) (.slice d2 m2 e2) (iT sd)):=by rw [hw2];exact HBX.out.set1 _
 have HR2:Hid (aV w2 (X+1) (.string ⟨#[]⟩) (iT 0) nZ nZ nZ (iT 0)):=by rw [hw2];exact HBR.out.other hne _
 have K2:Hid (Bl w w2):=by rw [hw2];exact HKW.out.setCell (p:=⟨X,1,none⟩) hx _
 rw [← hw2];clear hw2 x0 x1 xf xz HBX HBR;have b2:=HB2.out;have r2:=HR2.out;have p0:=b2.c0;have p1:=b2.c1;have p2:=b2.c2;have p3:=b2.c3;have p4:=b2.c4;have p5:=b2.c5;have pz:=b2.lt;have u0:=r2.c0;have u1:=r2.c1;have u2:=r2.c2;have u3:=r2.c3;have u4:=r2.c4;have u5:=r2.c5;have uf:=r2.fz;have uz:=r2.lt;obtain ⟨w3,hw3⟩:=aw ((((((w2.setCell ⟨X+1,0,none⟩ (.string lg)).setCell ⟨X+1,1,none⟩ (iT (lg.size:Int))).setCell ⟨X+1,2,none⟩ (.slice d0 m0 e0)).setCell ⟨X+1,3,none⟩ (.slice d1 m1 e1)).setCell ⟨X+1,4,none⟩ (.slice d2 m2 e2)).setCell ⟨X+1,5,none⟩ (iT sd));have HR3:Hid (aV w3 (X+1) (.string lg) (iT (lg.size:Int)) (.slice d0 m0 e0) (.slice d1 m1 e1) (.slice d2 m2 e2) (iT sd)):=by rw [hw3];exact r2.sets (.string lg) (iT (lg.size:Int)) (.slice d0 m0 e0) (.slice d1 m1 e1) (.slice d2 m2 e2) (iT sd)
 have K3:Hid (Bl w w3):=by rw [hw3];exact nJ K2.out (by omega) (.string lg) (iT (lg.size:Int)) (.slice d0 m0 e0) (.slice d1 m1 e1) (.slice d2 m2 e2) (iT sd)
 have HW3:=ar hw3;clear hw3 b2 r2;go_wp2;rw [← HW3.out];refine bodyPost_ret (v:=.agg #[.string lg,iT (lg.size:Int),.slice d0 m0 e0,.slice d1 m1 e1,.slice d2 m2 e2,iT sd]) ?_ rfl ⟨rfl,K3.out⟩;have e:=HR3.out;simp [results,Tryz.results50,go_sem,e.c0,e.c1,e.c2,e.c3,e.c4,e.c5]
theorem pV (keep:Int) (w:World) :
 Calls Tryz.prog 95 #[iT keep] w fun e w'=>∃b:Nat,e=.returned (.func (.func 129) #[] #[.pointer (pT b)])∧w'.cell? ⟨b,0,none⟩=some (iT keep)∧Bl w w':=by
 go_enter Tryz.func95,Tryz.ntmps95
 go_wp2;go_ret;exact ⟨w.heap.size,rfl,by simp,bZ⟩
theorem vh (b:Nat) (keep:Int) (N:Nat) (lg:ByteArray) (sf:Int) (d0 d1 d2:Option Addr) (m0 e0 m1 e1 m2 e2:Nat) (sd:Int) (w:World) (hb:w.cell? ⟨b,0,none⟩=some (iT keep)) (hN:nS lg sf keep N) :
 Calls Tryz.prog 129 #[.agg #[.string lg,iT sf,.slice d0 m0 e0,.slice d1 m1 e1,.slice d2 m2 e2,iT sd],.pointer (pT b)] w fun e w'=>e=.returned (.agg #[.string (lg.extract 0 N),iT (N:Int),.slice d0 m0 e0,.slice d1 m1 e1,.slice d2 m2 e2,iT sd])∧Bl w w':=by
 obtain ⟨hN1,hN2⟩:=hN;obtain ⟨X,hX⟩:=aw w.heap.size;obtain ⟨W,hW⟩:=aw ((w.alloc (.cells #[.string lg,iT sf,.slice d0 m0 e0,.slice d1 m1 e1,.slice d2 m2 e2,iT sd] 66)).alloc (.cells #[.string ⟨#[]⟩,iT 0,nZ,nZ,nZ,iT 0] 66));have kW:Bl w W:=by rw [hW];exact bZ.alloc (by simp) _
 have bx:aV W X (.string lg) (iT sf) (.slice d0 m0 e0) (.slice d1 m1 e1) (.slice d2 m2 e2) (iT sd):=by rw [hW,hX];exact (aV.new _ _ _ _ _ _ _ _).alloc _
 have br:aV W (X+1) (.string ⟨#[]⟩) (iT 0) nZ nZ nZ (iT 0):=by
  have:=aV.new (w.alloc (.cells #[.string lg,iT sf,.slice d0 m0 e0,.slice d1 m1 e1,.slice d2 m2 e2,iT sd] 66)) 66 (.string ⟨#[]⟩) (iT 0) nZ nZ nZ (iT 0);rw [World.size_alloc] at this;rw [hW,hX];exact this
 have hbW:=cell_later kW hb;have hbz:=World.block_lt_of_cell? _ _ hb;simp only at hbz;have hbX:X≠b:=by omega
 have HXW:=ar hX;have HBX:=ar bx;have HBR:=ar br;have HKW:=ar kW;have x0:=bx.c0;have x1:=bx.c1;have xf:=bx.fz;have xz:=bx.lt;have hbw2:b<W.heap.size:=Nat.lt_of_lt_of_le hbz kW.size;have hNI:(N:Int)≤(lg.size:Int):=by omega
 have hN0:(0:Int)≤(N:Int):=by omega
 have hmx:max sf (min keep (lg.size:Int))=(N:Int):=hN1.symm;clear kW bx br hN1 hb;go_enter Tryz.func129,Tryz.ntmps129
 go_upto_region 1 with fail
 rw [← hX,← hW];clear hX hW;go_upto_region 2 with fail
 obtain ⟨w2,hw2⟩:=aw (W.setCell ⟨X,0,none⟩ (.string (lg.extract 0 N)));have hne:X≠X+1:=by omega
 have hx:w.heap.size≤X:=by have:=HXW.out;omega
 have HB2:Hid (aV w2 X (.string (lg.extract 0 N)) (iT sf) (.slice d0 m0 e0) (.slice d1 m1 e1) (.slice d2 m2 e2) (iT sd)):=by rw [hw2];exact HBX.out.set0 _
 have HR2:Hid (aV w2 (X+1) (.string ⟨#[]⟩) (iT 0) nZ nZ nZ (iT 0)):=by rw [hw2];exact HBR.out.other hne _
 have K2:Hid (Bl w w2):=by rw [hw2];exact HKW.out.setCell (p:=⟨X,0,none⟩) hx _
 have HSZ:Hid ((lg.extract 0 N).size=N):=by show _=_;rw [ByteArray.size_extract];omega
 rw [← hw2];clear hw2 x0 x1 xf xz HBX HBR hbW hbz hbX hbw2;obtain ⟨T,hT⟩:=aw (lg.extract 0 N);have HTE:=ar hT;rw [← hT] at HB2 HSZ ⊢;clear hT;have b2:=HB2.out;have p0:=b2.c0;have p1:=b2.c1;have p2:=b2.c2;have p3:=b2.c3;have p4:=b2.c4;have p5:=b2.c5;have pz:=b2.lt;have CS:=jK T (iT sf) d0 d1 d2 m0 e0 m1 e1 m2 e2 sd w2;rw [HSZ.out] at CS;clear b2;go_wp2_with fail
 refine CS.mono ?_;rintro e w4 ⟨rfl,hb4⟩;have r4:=HR2.out.keep hb4;have K4:Hid (Bl w w4):=K2.out.trans (hb4.mono K2.out.size);clear hb4 CS p0 p1 p2 p3 p4 p5 pz;have u0:=r4.c0;have u1:=r4.c1;have u2:=r4.c2;have u3:=r4.c3;have u4:=r4.c4;have u5:=r4.c5;have uf:=r4.fz;have uz:=r4.lt;obtain ⟨w3,hw3⟩:=aw ((((((w4.setCell ⟨X+1,0,none⟩ (.string T)).setCell ⟨X+1,1,none⟩ (iT (N:Int))).setCell ⟨X+1,2,none⟩ (.slice d0 m0 e0)).setCell ⟨X+1,3,none⟩ (.slice d1 m1 e1)).setCell ⟨X+1,4,none⟩ (.slice d2 m2 e2)).setCell ⟨X+1,5,none⟩ (iT sd));have HR3:Hid (aV w3 (X+1) (.string T) (iT (N:Int)) (.slice d0 m0 e0) (.slice d1 m1 e1) (.slice d2 m2 e2) (iT sd)):=by rw [hw3];exact r4.sets (.string T) (iT (N:Int)) (.slice d0 m0 e0) (.slice d1 m1 e1) (.slice d2 m2 e2) (iT sd)
 have K3:Hid (Bl w w3):=by rw [hw3];exact nJ K4.out (by omega) (.string T) (iT (N:Int)) (.slice d0 m0 e0) (.slice d1 m1 e1) (.slice d2 m2 e2) (iT sd)
 have HW3:=ar hw3;clear hw3 r4;go_wp2;rw [← HW3.out];refine bodyPost_ret (v:=.agg #[.string T,iT (N:Int),.slice d0 m0 e0,.slice d1 m1 e1,.slice d2 m2 e2,iT sd]) ?_ rfl ⟨by rw [HTE.out],K3.out⟩;have e:=HR3.out;simp [results,Tryz.results129,go_sem,e.c0,e.c1,e.c2,e.c3,e.c4,e.c5]
theorem tV (r:Nat) (lg:ByteArray) (sf:Value) (d0 d1 d2:Option Addr) (m0 e0 m1 e1 m2 e2:Nat) (sd:Int) (w:World)  (hr:w.cell? ⟨r,0,none⟩=some (.func (.func 50) #[] #[])) :
 Calls Tryz.prog 74 #[.agg #[.string lg,sf,.slice d0 m0 e0,.slice d1 m1 e1,.slice d2 m2 e2,iT sd],sL r 1 1] w fun e w'=>e=.returned (.agg #[.string lg,iT (lg.size:Int),.slice d0 m0 e0,.slice d1 m1 e1,.slice d2 m2 e2,iT sd])∧Bl w w':=by
 obtain ⟨X,hX⟩:=aw w.heap.size;obtain ⟨W,hW⟩:=aw ((w.alloc (.cells #[.string lg,sf,.slice d0 m0 e0,.slice d1 m1 e1,.slice d2 m2 e2,iT sd] 66)).alloc (.cells #[.string ⟨#[]⟩,iT 0,nZ,nZ,nZ,iT 0] 66));have kW:Bl w W:=by rw [hW];exact bZ.alloc (by simp) _
 have bx:aV W X (.string lg) sf (.slice d0 m0 e0) (.slice d1 m1 e1) (.slice d2 m2 e2) (iT sd):=by rw [hW,hX];exact (aV.new _ _ _ _ _ _ _ _).alloc _
 have br:aV W (X+1) (.string ⟨#[]⟩) (iT 0) nZ nZ nZ (iT 0):=by
  have:=aV.new (w.alloc (.cells #[.string lg,sf,.slice d0 m0 e0,.slice d1 m1 e1,.slice d2 m2 e2,iT sd] 66)) 66 (.string ⟨#[]⟩) (iT 0) nZ nZ nZ (iT 0);rw [World.size_alloc] at this;rw [hW,hX];exact this
 have HRW:=ar hr;have HXW:=ar hX;have HBX:=ar bx;have HBR:=ar br;have HKW:=ar kW;clear kW bx br hr;go_enter Tryz.func74,Tryz.ntmps74
 go_upto_region 1 with fail
 rw [← hX,← hW];clear hX hW;go_wp2;go_loopw [9] (fun iv wr=>Bl w wr∧aV wr (X+1) (.string ⟨#[]⟩) (iT 0) nZ nZ nZ (iT 0)∧((iv=iT 0∧aV wr X (.string lg) sf (.slice d0 m0 e0) (.slice d1 m1 e1) (.slice d2 m2 e2) (iT sd))∨(iv=iT 1∧aV wr X (.string lg) (iT (lg.size:Int)) (.slice d0 m0 e0) (.slice d1 m1 e1) (.slice d2 m2 e2) (iT sd)))) (fun iv _=>1 - (intOf iv).toNat)
 case atStart=>exact ⟨HKW.out,HBR.out,Or.inl ⟨rfl,HBX.out⟩⟩
 case round =>
  obtain ⟨hk,hbr,hcase⟩:=hrel;have HK:=ar hk;have HR:=ar hbr;clear HBX HBR HKW;rcases hcase with ⟨rfl,hbx⟩ | ⟨rfl,hbx⟩
  · have HX1:=ar hbx;have c0:=hbx.c0;have c1:=hbx.c1;have c2:=hbx.c2;have c3:=hbx.c3;have c4:=hbx.c4;have c5:=hbx.c5;have cz:=hbx.lt;have cr:=cell_later hk HRW.out;have CS:=jK lg sf d0 d1 d2 m0 e0 m1 e1 m2 e2 sd wr;clear hk hbr hbx;go_wp2_with fail
    refine CS.mono ?_;rintro e w2 ⟨rfl,hb2⟩;have HX2:=ar (HX1.out.keep hb2);have HR2:=ar (HR.out.keep hb2);have HK2:Hid (Bl w w2):=HK.out.trans (hb2.mono HK.out.size);have x:=HX2.out;have a0:=x.c0;have a1:=x.c1;have a2:=x.c2;have a3:=x.c3;have a4:=x.c4;have a5:=x.c5;have af:=x.fz;have az:=x.lt;clear hb2 x c0 c1 c2 c3 c4 c5 cz cr CS HX1 HR HK;go_wp2;go_roundw
    case rel =>
     have hx:w.heap.size≤X:=by have:=HXW.out;omega
     refine ⟨?_,?_,Or.inr ⟨by first | rfl | go_num,?_⟩⟩
     · exact ((nY HK2.out hx _ _ _ _).setCell (p:=⟨X,4,none⟩) hx _).setCell (p:=⟨X,5,none⟩) hx _
     · have hne:X≠X+1:=by omega
       exact (((((HR2.out.other hne _).other hne _).other hne _).other hne _).other hne _).other hne _
     · exact (((((HX2.out.set0 _).set1 _).set2 _).set3 _).set4 _).set5 _
    case measure=>simp [intOf]
  · have HX1:=ar hbx;have c0:=hbx.c0;have c1:=hbx.c1;have c2:=hbx.c2;have c3:=hbx.c3;have c4:=hbx.c4;have c5:=hbx.c5;have cz:=hbx.lt;have r0:=hbr.c0;have r1:=hbr.c1;have r2:=hbr.c2;have r3:=hbr.c3;have r4:=hbr.c4;have r5:=hbr.c5;have rf:=hbr.fz;have rz:=hbr.lt;clear hk hbr hbx;go_wp2;refine bodyPost_ret (v:=.agg #[.string lg,iT (lg.size:Int),.slice d0 m0 e0,.slice d1 m1 e1,.slice d2 m2 e2,iT sd]) ?_ rfl ⟨rfl,?_⟩
    · have e:=(((((HR.out.set0 (.string lg)).set1 (iT (lg.size:Int))).set2 (.slice d0 m0 e0)).set3 (.slice d1 m1 e1)).set4 (.slice d2 m2 e2)).set5 (iT sd);simp [results,Tryz.results74,go_sem,e.c0,e.c1,e.c2,e.c3,e.c4,e.c5]
    · have hx1:w.heap.size≤X+1:=by have:=HXW.out;omega
      exact ((nY HK.out hx1 _ _ _ _).setCell (p:=⟨X+1,4,none⟩) hx1 _).setCell (p:=⟨X+1,5,none⟩) hx1 _
theorem sk (r b C:Nat) (keep:Int) (N:Nat) (lg:ByteArray) (sf:Int) (d0 d1 d2:Option Addr) (m0 e0 m1 e1 m2 e2:Nat) (sd:Int) (w:World) (hb:w.cell? ⟨b,0,none⟩=some (iT keep)) (hN:nS lg sf keep N) (hr:w.cell? ⟨r,0,none⟩=some (.func (.func 129) #[] #[.pointer (pT b)])) :
 Calls Tryz.prog 74 #[.agg #[.string lg,iT sf,.slice d0 m0 e0,.slice d1 m1 e1,.slice d2 m2 e2,iT sd],sL r 1 C] w fun e w'=>e=.returned (.agg #[.string (lg.extract 0 N),iT (N:Int),.slice d0 m0 e0,.slice d1 m1 e1,.slice d2 m2 e2,iT sd])∧Bl w w':=by
 obtain ⟨X,hX⟩:=aw w.heap.size;obtain ⟨W,hW⟩:=aw ((w.alloc (.cells #[.string lg,iT sf,.slice d0 m0 e0,.slice d1 m1 e1,.slice d2 m2 e2,iT sd] 66)).alloc (.cells #[.string ⟨#[]⟩,iT 0,nZ,nZ,nZ,iT 0] 66));have kW:Bl w W:=by rw [hW];exact bZ.alloc (by simp) _
 have bx:aV W X (.string lg) (iT sf) (.slice d0 m0 e0) (.slice d1 m1 e1) (.slice d2 m2 e2) (iT sd):=by rw [hW,hX];exact (aV.new _ _ _ _ _ _ _ _).alloc _
 have br:aV W (X+1) (.string ⟨#[]⟩) (iT 0) nZ nZ nZ (iT 0):=by
  have:=aV.new (w.alloc (.cells #[.string lg,iT sf,.slice d0 m0 e0,.slice d1 m1 e1,.slice d2 m2 e2,iT sd] 66)) 66 (.string ⟨#[]⟩) (iT 0) nZ nZ nZ (iT 0);rw [World.size_alloc] at this;rw [hW,hX];exact this
 have HRW:=ar hr;have HBW:=ar hb;have HXW:=ar hX;have HBX:=ar bx;have HBR:=ar br;have HKW:=ar kW;clear kW bx br hb hr;go_enter Tryz.func74,Tryz.ntmps74
 go_upto_region 1 with fail
 rw [← hX,← hW];clear hX hW;go_wp2;go_loopw [9] (fun iv wr=>Bl w wr∧aV wr (X+1) (.string ⟨#[]⟩) (iT 0) nZ nZ nZ (iT 0)∧((iv=iT 0∧aV wr X (.string lg) (iT sf) (.slice d0 m0 e0) (.slice d1 m1 e1) (.slice d2 m2 e2) (iT sd))∨(iv=iT 1∧aV wr X (.string (lg.extract 0 N)) (iT (N:Int)) (.slice d0 m0 e0) (.slice d1 m1 e1) (.slice d2 m2 e2) (iT sd)))) (fun iv _=>1 - (intOf iv).toNat)
 case atStart=>exact ⟨HKW.out,HBR.out,Or.inl ⟨rfl,HBX.out⟩⟩
 case round =>
  obtain ⟨hk,hbr,hcase⟩:=hrel;have HK:=ar hk;have HR:=ar hbr;clear HBX HBR HKW;rcases hcase with ⟨rfl,hbx⟩ | ⟨rfl,hbx⟩
  · have HX1:=ar hbx;have c0:=hbx.c0;have c1:=hbx.c1;have c2:=hbx.c2;have c3:=hbx.c3;have c4:=hbx.c4;have c5:=hbx.c5;have cz:=hbx.lt;have cr:=cell_later hk HRW.out;have CS:=vh b keep N lg sf d0 d1 d2 m0 e0 m1 e1 m2 e2 sd wr (cell_later hk HBW.out) hN;clear hk hbr hbx;go_wp2_with fail
    refine CS.mono ?_;rintro e w2 ⟨rfl,hb2⟩;have HX2:=ar (HX1.out.keep hb2);have HR2:=ar (HR.out.keep hb2);have HK2:Hid (Bl w w2):=HK.out.trans (hb2.mono HK.out.size);have x:=HX2.out;have a0:=x.c0;have a1:=x.c1;have a2:=x.c2;have a3:=x.c3;have a4:=x.c4;have a5:=x.c5;have af:=x.fz;have az:=x.lt;clear hb2 x c0 c1 c2 c3 c4 c5 cz cr CS HX1 HR HK;go_wp2;go_roundw
    case rel =>
     have hx:w.heap.size≤X:=by have:=HXW.out;omega
     refine ⟨?_,?_,Or.inr ⟨by first | rfl | go_num,?_⟩⟩
     · exact ((nY HK2.out hx _ _ _ _).setCell (p:=⟨X,4,none⟩) hx _).setCell (p:=⟨X,5,none⟩) hx _
     · have hne:X≠X+1:=by omega
       exact (((((HR2.out.other hne _).other hne _).other hne _).other hne _).other hne _).other hne _
     · exact (((((HX2.out.set0 _).set1 _).set2 _).set3 _).set4 _).set5 _
    case measure=>simp [intOf]
  · have HX1:=ar hbx;have c0:=hbx.c0;have c1:=hbx.c1;have c2:=hbx.c2;have c3:=hbx.c3;have c4:=hbx.c4;have c5:=hbx.c5;have cz:=hbx.lt;have r0:=hbr.c0;have r1:=hbr.c1;have r2:=hbr.c2;have r3:=hbr.c3;have r4:=hbr.c4;have r5:=hbr.c5;have rf:=hbr.fz;have rz:=hbr.lt;clear hk hbr hbx;go_wp2;refine bodyPost_ret (v:=.agg #[.string (lg.extract 0 N),iT (N:Int),.slice d0 m0 e0,.slice d1 m1 e1,.slice d2 m2 e2,iT sd]) ?_ rfl ⟨rfl,?_⟩
    · have e:=(((((HR.out.set0 (.string (lg.extract 0 N))).set1 (iT (N:Int))).set2 (.slice d0 m0 e0)).set3 (.slice d1 m1 e1)).set4 (.slice d2 m2 e2)).set5 (iT sd);simp [results,Tryz.results74,go_sem,e.c0,e.c1,e.c2,e.c3,e.c4,e.c5]
    · have hx1:w.heap.size≤X+1:=by have:=HXW.out;omega
      exact ((nY HK.out hx1 _ _ _ _).setCell (p:=⟨X+1,4,none⟩) hx1 _).setCell (p:=⟨X+1,5,none⟩) hx1 _
theorem uK (z:Int) (a0 a1 a2 a3 a4:Option Addr) (n0 c0 n1 c1 n2 c2 n3 c3 n4 c4:Nat) (w:World) :
 Calls Tryz.prog 24 #[.agg #[iT z,.slice a0 n0 c0,.slice a1 n1 c1,.slice a2 n2 c2,.slice a3 n3 c3,.slice a4 n4 c4]] w fun e w'=>∃r:Nat,e=.returned (.tuple #[.agg #[iT z,.slice a0 n0 c0,.slice a1 n1 c1,.slice a2 n2 c2,.slice a3 n3 c3,.slice a4 n4 c4],sL r 1 1,.bool true])∧w'.cell? ⟨r,0,none⟩=some (.func (.func 50) #[] #[])∧Bl w w':=by
 go_enter Tryz.func24,Tryz.ntmps24
 go_wp2;refine bodyPost_ret (v:=.tuple #[.agg #[iT z,.slice a0 n0 c0,.slice a1 n1 c1,.slice a2 n2 c2,.slice a3 n3 c3,.slice a4 n4 c4],sL (w.heap.size+1+1) 1 1,.bool true]) ?_ rfl ?_
 · simp [results,Tryz.results24,go_sem]
 · refine ⟨w.heap.size+1+1,rfl,?_,(bZ.alloc (by simp) _).alloc (by simp;omega) _⟩;have h:∀u:World,u.heap.size=w.heap.size+1+1→(u.alloc (.cells #[.func (.func 50) #[] #[]] 109)).cell? ⟨w.heap.size+1+1,0,none⟩=some (.func (.func 50) #[] #[]):=fun u hu=>by rw [← hu];simp
   exact h _ (by simp)
theorem ri (z:Int) (a0 a1 a2 a3 a4:Option Addr) (n0 c0 n1 c1 n2 c2 n3 c3 n4 c4:Nat) (w:World) :
 Calls Tryz.prog 33 #[.agg #[iT z,.slice a0 n0 c0,.slice a1 n1 c1,.slice a2 n2 c2,.slice a3 n3 c3,.slice a4 n4 c4]] w fun e w'=>e=.returned nZ∧Bl w w':=by
 go_enter Tryz.func33,Tryz.ntmps33
 go_wp2;go_ret;exact ⟨rfl,bZ⟩
end Go.Proofs.YtgpcinihgofmfaaGreatDoor
