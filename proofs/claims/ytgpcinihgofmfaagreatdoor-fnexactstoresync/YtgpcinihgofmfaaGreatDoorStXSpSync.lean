/-
  What the document's StoreSync answers, by a walk of its Go text.
-/
import Derived.Test.YtgpcinihgofmfaaGreatDoorSt42
import Derived.Test.YtgpcinihgofmfaaGreatDoorSt43
import Derived.Test.YtgpcinihgofmfaaGreatDoorSt12
namespace Go.Proofs.YtgpcinihgofmfaaGreatDoor
open Go.RowKit
set_option maxRecDepth 100000
set_option maxHeartbeats 8000000
def AV (up:Bool) (q:Int) (M:List ae) (V:List (List aj)) (S:List Int) (lg:ByteArray) (sf sd:Int) (U:List (List aj)) (P:List (List ae)) (k:Nat) (w:World) (e:Ending) (w':World):Prop:=Bc (js up q M V S lg sf sd U P k) up (gC false 0 [] [] [] ⟨#[]⟩ 0 0 [] w e w') (gC true q M V S lg (lg.size:Int) sd U w e w') (gC false 0 [] [] [] lg sf sd U w e w')
theorem gc (up:Bool) (q:Int) (b1 b3:Nat) (av dv:Option Addr) (nm cm nv cv ns cs nd cd:Nat) (M:List ae) (V:List (List aj)) (S:List Int) (lg:ByteArray) (sf sd:Int) (U:List (List aj)) (P:List (List ae)) (k:Nat) (w:World) (hT:aW 0 w (pT b1) nm cm av nv cv (pT b3) ns cs M V S) (hU:ay 0 w dv nd cd U) (hlg:lg.size≤1048576) (hw:bG lg.data.toList P k) :
 Calls Tryz.prog 7 #[.agg #[.bool up,iT q,sL b1 nm cm,.slice av nv cv,sL b3 ns cs,.string lg,iT sf,.slice dv nd cd,iT sd]] w (AV up q M V S lg sf sd U P k w):=by
 obtain ⟨X,hX⟩:=aw w.heap.size;obtain ⟨W,hW⟩:=aw ((w.alloc (.cells #[.bool up,iT q,sL b1 nm cm,.slice av nv cv,sL b3 ns cs,.string lg,iT sf,.slice dv nd cd,iT sd] 39)).alloc (.cells #[.bool false,iT 0,nZ,nZ,nZ,.string ⟨#[]⟩,iT 0,nZ,iT 0] 39));have kW:Bl w W:=by rw [hW];exact bZ.alloc (by simp) _
 have bx:aA W X (.bool up) (iT q) (sL b1 nm cm) (.slice av nv cv) (sL b3 ns cs) (.string lg) (iT sf) (.slice dv nd cd) (iT sd):=by rw [hW,hX];exact (aA.new _ _ _ _ _ _ _ _ _ _ _).alloc _
 have br:aA W (X+1) (.bool false) (iT 0) nZ nZ nZ (.string ⟨#[]⟩) (iT 0) nZ (iT 0):=by
  have:=aA.new (w.alloc (.cells #[.bool up,iT q,sL b1 nm cm,.slice av nv cv,sL b3 ns cs,.string lg,iT sf,.slice dv nd cd,iT sd] 39)) 39 (.bool false) (iT 0) nZ nZ nZ (.string ⟨#[]⟩) (iT 0) nZ (iT 0);rw [World.size_alloc] at this;rw [hW,hX];exact this
 have HXW:=ar hX;have HKW:=ar kW;have HBX:=ar bx;have HBR:=ar br;have HT:=ar (hT.keep kW);have HU:=ar (hU.keep kW);have HNM:Hid (M.length=nm∧V.length=nv∧S.length=ns∧U.length=nd):=⟨hT.mem.1.length,hT.levels.length,hT.snaps.length,hU.length⟩;have HSW:Hid (∀z ∈ S,(Lit.int .i64 z).wf=true):=hT.snaps.wfs;have HW:=ar hw;have CS:=iZ up q (pT b1) av (pT b3) dv nm cm nv cv ns cs nd cd M V S lg sf sd U W HT.out HU.out hlg;have x0:=bx.c0;have x1:=bx.c1;have x2:=bx.c2;have x3:=bx.c3;have x4:=bx.c4;have x5:=bx.c5;have x6:=bx.c6;have x7:=bx.c7;have x8:=bx.c8;have xz:=bx.lt;clear kW bx br hT hU hw;go_enter Tryz.func7,Tryz.ntmps7
 go_upto_region 1 with fail
 rw [← hX,← hW];clear hX hW;go_wp2_with fail
 refine CS.mono ?_;rintro e w1 ⟨b,rfl,hb,hb1⟩;have hb:=hb P k HW.out;have HB:=ar hb;have KB1:=ar hb1;have K1:Hid (Bl w w1):=HKW.out.trans (hb1.mono HKW.out.size);have b1':=HBX.out.keep hb1;have r1:=HBR.out.keep hb1;have HX1:=ar b1';have HR1:=ar r1;have hx1:w.heap.size≤X+1:=by have:=HXW.out;omega
 have HX1L:=ar hx1;clear hb hb1 CS x0 x1 x2 x3 x4 x5 x6 x7 x8 xz hx1;cases b with
 | false =>
  have u0:=r1.c0;have u1:=r1.c1;have u2:=r1.c2;have u3:=r1.c3;have u4:=r1.c4;have u5:=r1.c5;have u6:=r1.c6;have u7:=r1.c7;have u8:=r1.c8;have uf:=r1.fz;have uz:=r1.lt;obtain ⟨w3,hw3⟩:=aw (((((((((w1.setCell ⟨X+1,0,none⟩ (.bool false)).setCell ⟨X+1,1,none⟩ (iT 0)).setCell ⟨X+1,2,none⟩ nZ).setCell ⟨X+1,3,none⟩ nZ).setCell ⟨X+1,4,none⟩ nZ).setCell ⟨X+1,5,none⟩ (.string ⟨#[]⟩)).setCell ⟨X+1,6,none⟩ (iT 0)).setCell ⟨X+1,7,none⟩ nZ).setCell ⟨X+1,8,none⟩ (iT 0));have HR3:Hid (aA w3 (X+1) (.bool false) (iT 0) nZ nZ nZ (.string ⟨#[]⟩) (iT 0) nZ (iT 0)):=by rw [hw3];exact r1.sets (.bool false) (iT 0) nZ nZ nZ (.string ⟨#[]⟩) (iT 0) nZ (iT 0)
  have K3:Hid (Bl w w3):=by rw [hw3];exact bh K1.out HX1L.out (.bool false) (iT 0) nZ nZ nZ (.string ⟨#[]⟩) (iT 0) nZ (iT 0)
  have HW3:=ar hw3;clear hw3 b1' r1;go_wp2;rw [← HW3.out];refine bodyPost_ret (v:=.agg #[.bool false,iT 0,nZ,nZ,nZ,.string ⟨#[]⟩,iT 0,nZ,iT 0]) ?_ rfl ?_
  · have e:=HR3.out;simp [results,Tryz.results7,go_sem,e.c0,e.c1,e.c2,e.c3,e.c4,e.c5,e.c6,e.c7,e.c8]
  · have h:=HB.out.symm;have d:gC false 0 [] [] [] ⟨#[]⟩ 0 0 [] w (.returned (.agg #[.bool false,iT 0,nZ,nZ,nZ,.string ⟨#[]⟩,iT 0,nZ,iT 0])) w3:=⟨none,0,0,none,0,0,none,0,0,none,0,0,rfl,⟨dL 0 w3,(dL 0 w3).levels⟩,K3.out⟩;refine ⟨?_,?_,?_⟩
    · exact fun _=>d
    · exact fun h'=>by rw [h] at h';exact Bool.noConfusion h'
    · exact fun h'=>by rw [h] at h';exact Bool.noConfusion h'
 | true =>
  have hD:=ia HB.out.symm;have HD:=ar hD;have hUS:=dy hD.1;have HUS:=ar hUS;have hnd:nd≤100:=by have:=HNM.out.2.2.2;omega
  have HZ1:Hid (X+1<w1.heap.size):=HR1.out.lt;cases up with
  | true =>
   have hV0:=xI HB.out.symm;have hVS:=(dy hV0.1).2;have hnm:nm≤1048576:=by have:=(bJ hV0.1).2.2.1;have:=HNM.out.1;omega
   have hns:ns≤1048576:=by have:=mL hV0.1;have:=HNM.out.2.2.1;omega
   have hnv:nv≤100:=by have:=(dy hV0.1).1;have:=HNM.out.2.1;omega
   have CC:=fK 0 true q b1 b3 av dv nm cm nv cv ns cs nd cd M V S lg sf sd U w1 (HT.out.keep KB1.out) (HU.out.keep KB1.out) hnm hns hnv hVS hnd HUS.out.2;have x9:=HX1.out;have y0:=x9.c0;have y1:=x9.c1;have y2:=x9.c2;have y3:=x9.c3;have y4:=x9.c4;have y5:=x9.c5;have y6:=x9.c6;have y7:=x9.c7;have y8:=x9.c8;have yz:=x9.lt;clear x9 b1' r1;go_wp2_with fail
   refine CC.mono ?_;rintro e w2 ⟨hcu,_⟩;obtain ⟨g1,c1,G,c,g3,c3,H,cH,rfl,hT2,hU2,hb2⟩:=hcu rfl;have HT2:=ar hT2;have HU2:=ar hU2;have KB2:=ar hb2;have K2:Hid (Bl w w2):=K1.out.trans (hb2.mono K1.out.size);have HX2:=ar (HX1.out.keep hb2);have HR2:=ar (HR1.out.keep hb2);clear hcu hU2 hb2 CC hT2 y0 y1 y2 y3 y4 y5 y6 y7 y8 yz;go_upto_region 4 with fail
   obtain ⟨Y,hY⟩:=aw w2.heap.size;obtain ⟨w3,hw3⟩:=aw (w2.alloc (.cells #[.bool true,iT q,sL g1 nm c1,sL G nv c,sL g3 ns c3,.string lg,iT sf,sL H nd cH,iT sd] 39));have k3:Bl w2 w3:=by rw [hw3];exact bZ
   have HY3:Hid (aA w3 Y (.bool true) (iT q) (sL g1 nm c1) (sL G nv c) (sL g3 ns c3) (.string lg) (iT sf) (sL H nd cH) (iT sd)):=by rw [hw3,hY];exact aA.new _ _ _ _ _ _ _ _ _ _ _
   have KB3:=ar k3;have HX3:=ar (HX2.out.keep k3);have HR3:=ar (HR2.out.keep k3);have hyx:Y≠X+1∧w2.heap.size≤Y:=by
    have h2:=HR2.out.lt;omega
   have HYX:=ar hyx;rw [← hw3];try rw [← hY]
   clear hw3 hY k3 hyx;have x3:=HX3.out;have y3:=HY3.out;have q0:=x3.c0;have q5:=x3.c5;have qz:=x3.lt;have t0:=y3.c0;have t1:=y3.c1;have t2:=y3.c2;have t3:=y3.c3;have t4:=y3.c4;have t5:=y3.c5;have t6:=y3.c6;have t7:=y3.c7;have t8:=y3.c8;have tf:=y3.fz;have tz:=y3.lt;clear x3 y3;go_upto_region 6 with fail
   obtain ⟨w4,hw4⟩:=aw (w3.setCell ⟨Y,6,none⟩ (iT (lg.size:Int)));have HY4:Hid (aA w4 Y (.bool true) (iT q) (sL g1 nm c1) (sL G nv c) (sL g3 ns c3) (.string lg) (iT (lg.size:Int)) (sL H nd cH) (iT sd)):=by rw [hw4];exact HY3.out.set6 _
   have HR4:Hid (aA w4 (X+1) (.bool false) (iT 0) nZ nZ nZ (.string ⟨#[]⟩) (iT 0) nZ (iT 0)):=by rw [hw4];exact HR3.out.other HYX.out.1 _
   have KB4:Hid (Bl w2 w4):=by rw [hw4];exact KB3.out.setCell (p:=⟨Y,6,none⟩) HYX.out.2 _
   have K4:Hid (Bl w w4):=K2.out.trans (KB4.out.mono K2.out.size);have HT4:=ar (HT2.out.keep KB4.out);have HU4:=ar (HU2.out.keep KB4.out);rw [← hw4];clear hw4 t0 t1 t2 t3 t4 t5 t6 t7 t8 tf tz q0 q5 qz;have y4:=HY4.out;have t0:=y4.c0;have t1:=y4.c1;have t2:=y4.c2;have t3:=y4.c3;have t4:=y4.c4;have t5:=y4.c5;have t6:=y4.c6;have t7:=y4.c7;have t8:=y4.c8;have tz:=y4.lt;clear y4;have r9:=HR4.out;have u0:=r9.c0;have u1:=r9.c1;have u2:=r9.c2;have u3:=r9.c3;have u4:=r9.c4;have u5:=r9.c5;have u6:=r9.c6;have u7:=r9.c7;have u8:=r9.c8;have uf:=r9.fz;have uz:=r9.lt;obtain ⟨wf,hwf⟩:=aw (((((((((w4.setCell ⟨X+1,0,none⟩ (.bool true)).setCell ⟨X+1,1,none⟩ (iT q)).setCell ⟨X+1,2,none⟩ (sL g1 nm c1)).setCell ⟨X+1,3,none⟩ (sL G nv c)).setCell ⟨X+1,4,none⟩ (sL g3 ns c3)).setCell ⟨X+1,5,none⟩ (.string lg)).setCell ⟨X+1,6,none⟩ (iT (lg.size:Int))).setCell ⟨X+1,7,none⟩ (sL H nd cH)).setCell ⟨X+1,8,none⟩ (iT sd));have HRF:Hid (aA wf (X+1) (.bool true) (iT q) (sL g1 nm c1) (sL G nv c) (sL g3 ns c3) (.string lg) (iT (lg.size:Int)) (sL H nd cH) (iT sd)):=by rw [hwf];exact r9.sets (.bool true) (iT q) (sL g1 nm c1) (sL G nv c) (sL g3 ns c3) (.string lg) (iT (lg.size:Int)) (sL H nd cH) (iT sd)
   have KF:Hid (Bl w wf):=by rw [hwf];exact bh K4.out HX1L.out (.bool true) (iT q) (sL g1 nm c1) (sL G nv c) (sL g3 ns c3) (.string lg) (iT (lg.size:Int)) (sL H nd cH) (iT sd)
   have SF:Hid (∀{lo},X+1<lo→aN lo w4 wf):=fun h=>by rw [hwf];exact dU w4 (X+1) (.bool true) (iT q) (sL g1 nm c1) (sL G nv c) (sL g3 ns c3) (.string lg) (iT (lg.size:Int)) (sL H nd cH) (iT sd) h
   have HWF:=ar hwf;clear hwf r9;go_wp2;rw [← HWF.out];refine bodyPost_ret (v:=.agg #[.bool true,iT q,sL g1 nm c1,sL G nv c,sL g3 ns c3,.string lg,iT (lg.size:Int),sL H nd cH,iT sd]) ?_ rfl ?_
   · have e:=HRF.out;simp [results,Tryz.results7,go_sem,e.c0,e.c1,e.c2,e.c3,e.c4,e.c5,e.c6,e.c7,e.c8]
   · have hz:=HZ1.out;have t:=oy HT4.out (SF.out hz);have u:=ay.mono (HU4.out.same (SF.out hz)) (Nat.zero_le _);have h:=HB.out.symm;have d:gC true q M V S lg (lg.size:Int) sd U w (.returned (.agg #[.bool true,iT q,sL g1 nm c1,sL G nv c,sL g3 ns c3,.string lg,iT (lg.size:Int),sL H nd cH,iT sd])) wf:=⟨(pT g1),nm,c1,(pT G),nv,c,(pT g3),ns,c3,(pT H),nd,cH,rfl,⟨t,u⟩,KF.out⟩;refine ⟨?_,?_,?_⟩
     · exact fun h'=>by rw [h] at h';exact Bool.noConfusion h'
     · exact fun _ _=>d
     · exact fun _ h'=>Bool.noConfusion h'
  | false =>
   obtain ⟨⟨d1,d2,d3,d4⟩,d5⟩:=pH HB.out.symm;have hVS:∀B ∈ V,B.length≤100∧∀r ∈ B,1≤r.1.length∧r.1.length≤10000:=by rw [d3];intro B hB;cases hB
   have hnm:nm≤1048576:=by have:=HNM.out.1;rw [d2] at this;simp only [List.length_nil] at this;omega
   have hns:ns≤1048576:=by have:=HNM.out.2.2.1;rw [d4] at this;simp only [List.length_nil] at this;omega
   have hnv:nv≤100:=by have:=HNM.out.2.1;rw [d3] at this;simp only [List.length_nil] at this;omega
   clear d1 d2 d3 d4 d5;have CC:=fK 0 false q b1 b3 av dv nm cm nv cv ns cs nd cd M V S lg sf sd U w1 (HT.out.keep KB1.out) (HU.out.keep KB1.out) hnm hns hnv hVS hnd HUS.out.2;have x9:=HX1.out;have y0:=x9.c0;have y1:=x9.c1;have y2:=x9.c2;have y3:=x9.c3;have y4:=x9.c4;have y5:=x9.c5;have y6:=x9.c6;have y7:=x9.c7;have y8:=x9.c8;have yz:=x9.lt;clear x9 b1' r1;go_wp2_with fail
   refine CC.mono ?_;rintro e w2 ⟨_,hcu⟩;obtain ⟨H,cH,rfl,hU2,hb2⟩:=hcu rfl;have HU2:=ar hU2;have KB2:=ar hb2;have K2:Hid (Bl w w2):=K1.out.trans (hb2.mono K1.out.size);have HX2:=ar (HX1.out.keep hb2);have HR2:=ar (HR1.out.keep hb2);clear hcu hU2 hb2 CC y0 y1 y2 y3 y4 y5 y6 y7 y8 yz;go_upto_region 4 with fail
   obtain ⟨Y,hY⟩:=aw w2.heap.size;obtain ⟨w3,hw3⟩:=aw (w2.alloc (.cells #[.bool false,iT 0,nZ,nZ,nZ,.string lg,iT sf,sL H nd cH,iT sd] 39));have k3:Bl w2 w3:=by rw [hw3];exact bZ
   have HY3:Hid (aA w3 Y (.bool false) (iT 0) nZ nZ nZ (.string lg) (iT sf) (sL H nd cH) (iT sd)):=by rw [hw3,hY];exact aA.new _ _ _ _ _ _ _ _ _ _ _
   have K3:Hid (Bl w w3):=K2.out.trans (k3.mono K2.out.size);have HX3:=ar (HX2.out.keep k3);have HR3:=ar (HR2.out.keep k3);have HU3:=ar (HU2.out.keep k3);rw [← hw3];try rw [← hY]
   clear hw3 hY k3;have x3:=HX3.out;have y3:=HY3.out;have q0:=x3.c0;have qz:=x3.lt;have t0:=y3.c0;have t1:=y3.c1;have t2:=y3.c2;have t3:=y3.c3;have t4:=y3.c4;have t5:=y3.c5;have t6:=y3.c6;have t7:=y3.c7;have t8:=y3.c8;have tz:=y3.lt;clear x3 y3;have r9:=HR3.out;have u0:=r9.c0;have u1:=r9.c1;have u2:=r9.c2;have u3:=r9.c3;have u4:=r9.c4;have u5:=r9.c5;have u6:=r9.c6;have u7:=r9.c7;have u8:=r9.c8;have uf:=r9.fz;have uz:=r9.lt;obtain ⟨wf,hwf⟩:=aw (((((((((w3.setCell ⟨X+1,0,none⟩ (.bool false)).setCell ⟨X+1,1,none⟩ (iT 0)).setCell ⟨X+1,2,none⟩ nZ).setCell ⟨X+1,3,none⟩ nZ).setCell ⟨X+1,4,none⟩ nZ).setCell ⟨X+1,5,none⟩ (.string lg)).setCell ⟨X+1,6,none⟩ (iT sf)).setCell ⟨X+1,7,none⟩ (sL H nd cH)).setCell ⟨X+1,8,none⟩ (iT sd));have HRF:Hid (aA wf (X+1) (.bool false) (iT 0) nZ nZ nZ (.string lg) (iT sf) (sL H nd cH) (iT sd)):=by rw [hwf];exact r9.sets (.bool false) (iT 0) nZ nZ nZ (.string lg) (iT sf) (sL H nd cH) (iT sd)
   have KF:Hid (Bl w wf):=by rw [hwf];exact bh K3.out HX1L.out (.bool false) (iT 0) nZ nZ nZ (.string lg) (iT sf) (sL H nd cH) (iT sd)
   have SF:Hid (∀{lo},X+1<lo→aN lo w3 wf):=fun h=>by rw [hwf];exact dU w3 (X+1) (.bool false) (iT 0) nZ nZ nZ (.string lg) (iT sf) (sL H nd cH) (iT sd) h
   have HWF:=ar hwf;clear hwf r9;go_wp2;rw [← HWF.out];refine bodyPost_ret (v:=.agg #[.bool false,iT 0,nZ,nZ,nZ,.string lg,iT sf,sL H nd cH,iT sd]) ?_ rfl ?_
   · have e:=HRF.out;simp [results,Tryz.results7,go_sem,e.c0,e.c1,e.c2,e.c3,e.c4,e.c5,e.c6,e.c7,e.c8]
   · have hz:=HZ1.out;have t:=dL 0 wf;have u:=ay.mono (HU3.out.same (SF.out hz)) (Nat.zero_le _);have h:=HB.out.symm;have d:gC false 0 [] [] [] lg sf sd U w (.returned (.agg #[.bool false,iT 0,nZ,nZ,nZ,.string lg,iT sf,sL H nd cH,iT sd])) wf:=⟨none,0,0,none,0,0,none,0,0,(pT H),nd,cH,rfl,⟨t,u⟩,KF.out⟩;refine ⟨?_,?_,?_⟩
     · exact fun h'=>by rw [h] at h';exact Bool.noConfusion h'
     · exact fun _ h'=>Bool.noConfusion h'
     · exact fun _ _=>d
end Go.Proofs.YtgpcinihgofmfaaGreatDoor
