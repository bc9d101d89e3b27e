/-
  What the program's logsAnew, its step, after and open answer, by walks of their Go text.
-/
import Derived.Test.YtgpcinihgofmfaaGreatDoorSt36
import Derived.Test.YtgpcinihgofmfaaGreatDoorSt35
import Derived.Deep.QuietTactic
import Derived.Deep.LoopGhost
import Derived.BigQuiet
import Derived.Test.YtgpcinihgofmfaaGreatDoorSt00
import Derived.Test.YtgpcinihgofmfaaGreatDoorSt16
namespace Go.Proofs.YtgpcinihgofmfaaGreatDoor
open Go.RowKit
set_option maxRecDepth 100000
set_option maxHeartbeats 4000000
theorem pW (t:ByteArray) (w:World) :
 Calls Tryz.prog 75 #[.string t] w fun e w'=>∃b:Nat,e=.returned (.func (.func 114) #[] #[.pointer (pT b)])∧w'.cell? ⟨b,0,none⟩=some (.string t)∧Bl w w':=by
 go_enter Tryz.func75,Tryz.ntmps75
 go_wp2;go_ret;exact ⟨w.heap.size,rfl,by simp,bZ⟩
theorem yx (b:Nat) (t lg:ByteArray) (sf:Value) (d0 d1 d2:Option Addr) (m0 e0 m1 e1 m2 e2:Nat) (sd:Int) (w:World) (hb:w.cell? ⟨b,0,none⟩=some (.string t)) :
 Calls Tryz.prog 114 #[.agg #[.string lg,sf,.slice d0 m0 e0,.slice d1 m1 e1,.slice d2 m2 e2,iT sd],.pointer (pT b)] w fun e w'=>e=.returned (.agg #[.string t,iT (t.size:Int),.slice d0 m0 e0,.slice d1 m1 e1,.slice d2 m2 e2,iT sd])∧Bl w w':=by
 obtain ⟨X,hX⟩:=aw w.heap.size;obtain ⟨W,hW⟩:=aw ((w.alloc (.cells #[.string lg,sf,.slice d0 m0 e0,.slice d1 m1 e1,.slice d2 m2 e2,iT sd] 66)).alloc (.cells #[.string ⟨#[]⟩,iT 0,nZ,nZ,nZ,iT 0] 66));have kW:Bl w W:=by rw [hW];exact bZ.alloc (by simp) _
 have bx:aV W X (.string lg) sf (.slice d0 m0 e0) (.slice d1 m1 e1) (.slice d2 m2 e2) (iT sd):=by rw [hW,hX];exact (aV.new _ _ _ _ _ _ _ _).alloc _
 have br:aV W (X+1) (.string ⟨#[]⟩) (iT 0) nZ nZ nZ (iT 0):=by
  have:=aV.new (w.alloc (.cells #[.string lg,sf,.slice d0 m0 e0,.slice d1 m1 e1,.slice d2 m2 e2,iT sd] 66)) 66 (.string ⟨#[]⟩) (iT 0) nZ nZ nZ (iT 0);rw [World.size_alloc] at this;rw [hW,hX];exact this
 have hbW:=cell_later kW hb;have hbz:=World.block_lt_of_cell? _ _ hb;simp only at hbz;have HXW:=ar hX;have HBX:=ar bx;have HBR:=ar br;have HKW:=ar kW;have HMK:Hid (∀w',(Bl W w'∧True)→(w'.cell? ⟨b,0,none⟩=some (.string t)∧X<w'.heap.size)):=fun w' k=>⟨cell_later k.1 hbW,Nat.lt_of_lt_of_le bx.lt k.1.size⟩
 clear kW bx br;go_enter Tryz.func114,Tryz.ntmps114
 go_upto_region 1 with fail
 rw [← hX,← hW];clear hX hW;refine dI HMK ⟨(Below.refl _ W).drew,trivial⟩ fun aa=>?_
 refine aM 0 4 aa ?_;have k0:Bl W W.drew:=(Below.refl _ W).drew;have bx:=HBX.out.keep k0;have br:=HBR.out.keep k0;have HKD:Hid (Bl w W.drew):=HKW.out.drew;generalize W.drew=wd at aa bx br HKD ⊢;have c0:=bx.c0;have c1:=bx.c1;have cf:=bx.fz;have cz:=bx.lt;have hbX:X≠b:=by have:=HXW.out;omega
 have HS1:Hid ((wd.setCell ⟨X,0,none⟩ (.string t)).cell? ⟨b,0,none⟩=some (.string t)∧X<(wd.setCell ⟨X,0,none⟩ (.string t)).heap.size):=⟨by rw [World.cell?_setCell_other _ _ _ _ (fun e=>hbX (congrArg Addr.block e))];exact aa.1,by simpa [World.setCell] using cz⟩;have HS2:Hid (((wd.setCell ⟨X,0,none⟩ (.string t)).setCell ⟨X,1,none⟩ (iT (t.size:Int))).cell? ⟨b,0,none⟩=some (.string t)∧X<((wd.setCell ⟨X,0,none⟩ (.string t)).setCell ⟨X,1,none⟩ (iT (t.size:Int))).heap.size):=⟨by rw [World.cell?_setCell_other _ _ _ _ (fun e=>hbX (congrArg Addr.block e))];exact HS1.out.1,by simpa [World.setCell] using cz⟩;have HBZ:=ar ((bx.set0 (.string t)).set1 (iT (t.size:Int)));have HRZ:=ar ((br.other (b':=X) (o:=0) (by omega) (.string t)).other (b':=X) (o:=1) (by omega) (iT (t.size:Int)));have hx:w.heap.size≤X:=by have:=HXW.out;omega
 have HKZ:=ar ((HKD.out.setCell (p:=⟨X,0,none⟩) hx (.string t)).setCell (p:=⟨X,1,none⟩) hx (iT (t.size:Int)));clear bx br HMK HBX HBR;refine aR 4 fun K hK=>?_
 go_simp;refine hK.out _ _ HS1.out fun aa=>?_
 (try go_frame);refine aM 5 1 aa ?_;refine aR 6 fun K hK=>?_
 go_simp;refine hK.out _ _ HS2.out fun aa=>?_
 (try go_frame);refine dN ?_;have b0:=HBZ.out.c0;have b1:=HBZ.out.c1;have b2:=HBZ.out.c2;have b3:=HBZ.out.c3;have b4:=HBZ.out.c4;have b5:=HBZ.out.c5;have bl:=HBZ.out.lt;have r0:=HRZ.out.c0;have r1:=HRZ.out.c1;have r2:=HRZ.out.c2;have r3:=HRZ.out.c3;have r4:=HRZ.out.c4;have r5:=HRZ.out.c5;have rf:=HRZ.out.fz;have rl:=HRZ.out.lt;clear HS1 HS2 c0 c1 cf cz aa;generalize (wd.setCell ⟨X,0,none⟩ (.string t)).setCell ⟨X,1,none⟩ (iT (t.size:Int))=wz at *;go_wp2;refine bodyPost_ret (v:=.agg #[.string t,iT (t.size:Int),.slice d0 m0 e0,.slice d1 m1 e1,.slice d2 m2 e2,iT sd]) ?_ rfl ⟨rfl,?_⟩
 · have e:=(((((HRZ.out.set0 (.string t)).set1 (iT (t.size:Int))).set2 (.slice d0 m0 e0)).set3 (.slice d1 m1 e1)).set4 (.slice d2 m2 e2)).set5 (iT sd);simp [results,Tryz.results114,go_sem,e.c0,e.c1,e.c2,e.c3,e.c4,e.c5]
 · have hx1:w.heap.size≤X+1:=by omega
   exact ((nY HKZ.out hx1 _ _ _ _).setCell (p:=⟨X+1,4,none⟩) hx1 _).setCell (p:=⟨X+1,5,none⟩) hx1 _
theorem wS (r b:Nat) (t lg:ByteArray) (sf:Value) (d0 d1 d2:Option Addr) (m0 e0 m1 e1 m2 e2:Nat) (sd:Int) (w:World) (hb:w.cell? ⟨b,0,none⟩=some (.string t)) (hr:w.cell? ⟨r,0,none⟩=some (.func (.func 114) #[] #[.pointer (pT b)])) :
 Calls Tryz.prog 74 #[.agg #[.string lg,sf,.slice d0 m0 e0,.slice d1 m1 e1,.slice d2 m2 e2,iT sd],sL r 1 1] w fun e w'=>e=.returned (.agg #[.string t,iT (t.size:Int),.slice d0 m0 e0,.slice d1 m1 e1,.slice d2 m2 e2,iT sd])∧Bl w w':=by
 obtain ⟨X,hX⟩:=aw w.heap.size;obtain ⟨W,hW⟩:=aw ((w.alloc (.cells #[.string lg,sf,.slice d0 m0 e0,.slice d1 m1 e1,.slice d2 m2 e2,iT sd] 66)).alloc (.cells #[.string ⟨#[]⟩,iT 0,nZ,nZ,nZ,iT 0] 66));have kW:Bl w W:=by rw [hW];exact bZ.alloc (by simp) _
 have bx:aV W X (.string lg) sf (.slice d0 m0 e0) (.slice d1 m1 e1) (.slice d2 m2 e2) (iT sd):=by rw [hW,hX];exact (aV.new _ _ _ _ _ _ _ _).alloc _
 have br:aV W (X+1) (.string ⟨#[]⟩) (iT 0) nZ nZ nZ (iT 0):=by
  have:=aV.new (w.alloc (.cells #[.string lg,sf,.slice d0 m0 e0,.slice d1 m1 e1,.slice d2 m2 e2,iT sd] 66)) 66 (.string ⟨#[]⟩) (iT 0) nZ nZ nZ (iT 0);rw [World.size_alloc] at this;rw [hW,hX];exact this
 have HRW:=ar hr;have HBW:=ar hb;have HXW:=ar hX;have HBX:=ar bx;have HBR:=ar br;have HKW:=ar kW;clear kW bx br hb hr;go_enter Tryz.func74,Tryz.ntmps74
 go_upto_region 1 with fail
 rw [← hX,← hW];clear hX hW;go_wp2;go_loopw [9] (fun iv wr=>Bl w wr∧aV wr (X+1) (.string ⟨#[]⟩) (iT 0) nZ nZ nZ (iT 0)∧((iv=iT 0∧aV wr X (.string lg) sf (.slice d0 m0 e0) (.slice d1 m1 e1) (.slice d2 m2 e2) (iT sd))∨(iv=iT 1∧aV wr X (.string t) (iT (t.size:Int)) (.slice d0 m0 e0) (.slice d1 m1 e1) (.slice d2 m2 e2) (iT sd)))) (fun iv _=>1 - (intOf iv).toNat)
 case atStart=>exact ⟨HKW.out,HBR.out,Or.inl ⟨rfl,HBX.out⟩⟩
 case round =>
  obtain ⟨hk,hbr,hcase⟩:=hrel;have HK:=ar hk;have HR:=ar hbr;clear HBX HBR HKW;rcases hcase with ⟨rfl,hbx⟩ | ⟨rfl,hbx⟩
  · have HX1:=ar hbx;have c0:=hbx.c0;have c1:=hbx.c1;have c2:=hbx.c2;have c3:=hbx.c3;have c4:=hbx.c4;have c5:=hbx.c5;have cz:=hbx.lt;have cr:=cell_later hk HRW.out;have CS:=yx b t lg sf d0 d1 d2 m0 e0 m1 e1 m2 e2 sd wr (cell_later hk HBW.out);clear hk hbr hbx;go_wp2_with fail
    refine CS.mono ?_;rintro e w2 ⟨rfl,hb2⟩;have HX2:=ar (HX1.out.keep hb2);have HR2:=ar (HR.out.keep hb2);have HK2:Hid (Bl w w2):=HK.out.trans (hb2.mono HK.out.size);have x:=HX2.out;have a0:=x.c0;have a1:=x.c1;have a2:=x.c2;have a3:=x.c3;have a4:=x.c4;have a5:=x.c5;have af:=x.fz;have az:=x.lt;clear hb2 x c0 c1 c2 c3 c4 c5 cz cr CS HX1 HR HK;go_wp2;go_roundw
    case rel =>
     have hx:w.heap.size≤X:=by have:=HXW.out;omega
     refine ⟨?_,?_,Or.inr ⟨by first | rfl | go_num,?_⟩⟩
     · exact ((nY HK2.out hx _ _ _ _).setCell (p:=⟨X,4,none⟩) hx _).setCell (p:=⟨X,5,none⟩) hx _
     · have hne:X≠X+1:=by omega
       exact (((((HR2.out.other hne _).other hne _).other hne _).other hne _).other hne _).other hne _
     · exact (((((HX2.out.set0 _).set1 _).set2 _).set3 _).set4 _).set5 _
    case measure=>simp [intOf]
  · have HX1:=ar hbx;have c0:=hbx.c0;have c1:=hbx.c1;have c2:=hbx.c2;have c3:=hbx.c3;have c4:=hbx.c4;have c5:=hbx.c5;have cz:=hbx.lt;have r0:=hbr.c0;have r1:=hbr.c1;have r2:=hbr.c2;have r3:=hbr.c3;have r4:=hbr.c4;have r5:=hbr.c5;have rf:=hbr.fz;have rz:=hbr.lt;clear hk hbr hbx;go_wp2;refine bodyPost_ret (v:=.agg #[.string t,iT (t.size:Int),.slice d0 m0 e0,.slice d1 m1 e1,.slice d2 m2 e2,iT sd]) ?_ rfl ⟨rfl,?_⟩
    · have e:=(((((HR.out.set0 (.string t)).set1 (iT (t.size:Int))).set2 (.slice d0 m0 e0)).set3 (.slice d1 m1 e1)).set4 (.slice d2 m2 e2)).set5 (iT sd);simp [results,Tryz.results74,go_sem,e.c0,e.c1,e.c2,e.c3,e.c4,e.c5]
    · have hx1:w.heap.size≤X+1:=by have:=HXW.out;omega
      exact ((nY HK.out hx1 _ _ _ _).setCell (p:=⟨X+1,4,none⟩) hx1 _).setCell (p:=⟨X+1,5,none⟩) hx1 _
end Go.Proofs.YtgpcinihgofmfaaGreatDoor

namespace Go.Proofs.YtgpcinihgofmfaaGreatDoor
open Go.RowKit
structure aC (w:World) (b:Nat) (u0 u1 u2 u3 u4 u5 u6 u7 u8 u9 u10 u11 u12:Value):Prop where
 c0:w.cell? ⟨b,0,none⟩=some u0
 c1:w.cell? ⟨b,1,none⟩=some u1
 c2:w.cell? ⟨b,2,none⟩=some u2
 c3:w.cell? ⟨b,3,none⟩=some u3
 c4:w.cell? ⟨b,4,none⟩=some u4
 c5:w.cell? ⟨b,5,none⟩=some u5
 c6:w.cell? ⟨b,6,none⟩=some u6
 c7:w.cell? ⟨b,7,none⟩=some u7
 c8:w.cell? ⟨b,8,none⟩=some u8
 c9:w.cell? ⟨b,9,none⟩=some u9
 c10:w.cell? ⟨b,10,none⟩=some u10
 c11:w.cell? ⟨b,11,none⟩=some u11
 c12:w.cell? ⟨b,12,none⟩=some u12
 fz:∀o,w.frozen? ⟨b,o,none⟩=false
theorem aC.lt {w:World} {b:Nat} {u0 u1 u2 u3 u4 u5 u6 u7 u8 u9 u10 u11 u12:Value} (h:aC w b u0 u1 u2 u3 u4 u5 u6 u7 u8 u9 u10 u11 u12):b<w.heap.size:=World.block_lt_of_cell? w _ h.c0
theorem aC.new (w:World) (t:TypeId) (u0 u1 u2 u3 u4 u5 u6 u7 u8 u9 u10 u11 u12:Value):aC (w.alloc (.cells #[u0,u1,u2,u3,u4,u5,u6,u7,u8,u9,u10,u11,u12] t)) w.heap.size u0 u1 u2 u3 u4 u5 u6 u7 u8 u9 u10 u11 u12:=⟨by simp,by simp,by simp,by simp,by simp,by simp,by simp,by simp,by simp,by simp,by simp,by simp,by simp,fun o=>by simp⟩
theorem aC.keep {w w':World} {b:Nat} {u0 u1 u2 u3 u4 u5 u6 u7 u8 u9 u10 u11 u12:Value} (h:aC w b u0 u1 u2 u3 u4 u5 u6 u7 u8 u9 u10 u11 u12) (hb:Bl w w'):aC w' b u0 u1 u2 u3 u4 u5 u6 u7 u8 u9 u10 u11 u12 :=
 ⟨cell_later hb h.c0,cell_later hb h.c1,cell_later hb h.c2,cell_later hb h.c3,cell_later hb h.c4,cell_later hb h.c5,cell_later hb h.c6,cell_later hb h.c7,cell_later hb h.c8,cell_later hb h.c9,cell_later hb h.c10,cell_later hb h.c11,cell_later hb h.c12,fun o=>(hb.frozen (p:=⟨b,o,none⟩) h.lt).trans (h.fz o)⟩
theorem aC.alloc {w:World} {b:Nat} {u0 u1 u2 u3 u4 u5 u6 u7 u8 u9 u10 u11 u12:Value} (h:aC w b u0 u1 u2 u3 u4 u5 u6 u7 u8 u9 u10 u11 u12) (o:Obj):aC (w.alloc o) b u0 u1 u2 u3 u4 u5 u6 u7 u8 u9 u10 u11 u12:=h.keep bZ
theorem aC.other {w:World} {b:Nat} {u0 u1 u2 u3 u4 u5 u6 u7 u8 u9 u10 u11 u12:Value} (h:aC w b u0 u1 u2 u3 u4 u5 u6 u7 u8 u9 u10 u11 u12) {b' o:Nat} (hp:b'≠b) (x:Value):aC (w.setCell ⟨b',o,none⟩ x) b u0 u1 u2 u3 u4 u5 u6 u7 u8 u9 u10 u11 u12 :=
 ⟨(ac x (fun e=>hp e.1.symm)).trans h.c0,(ac x (fun e=>hp e.1.symm)).trans h.c1,(ac x (fun e=>hp e.1.symm)).trans h.c2,(ac x (fun e=>hp e.1.symm)).trans h.c3,(ac x (fun e=>hp e.1.symm)).trans h.c4,(ac x (fun e=>hp e.1.symm)).trans h.c5,(ac x (fun e=>hp e.1.symm)).trans h.c6,(ac x (fun e=>hp e.1.symm)).trans h.c7,(ac x (fun e=>hp e.1.symm)).trans h.c8,(ac x (fun e=>hp e.1.symm)).trans h.c9,(ac x (fun e=>hp e.1.symm)).trans h.c10,(ac x (fun e=>hp e.1.symm)).trans h.c11,(ac x (fun e=>hp e.1.symm)).trans h.c12,fun o=>by rw [World.frozen?_setCell];exact h.fz o⟩
theorem aC.set0 {w:World} {b:Nat} {u0 u1 u2 u3 u4 u5 u6 u7 u8 u9 u10 u11 u12:Value} (h:aC w b u0 u1 u2 u3 u4 u5 u6 u7 u8 u9 u10 u11 u12) (x:Value):aC (w.setCell ⟨b,0,none⟩ x) b x u1 u2 u3 u4 u5 u6 u7 u8 u9 u10 u11 u12 :=
 ⟨World.cell?_setCell_same' _ _ _ (by rw [h.c0];rfl),(ac x (by simp)).trans h.c1,(ac x (by simp)).trans h.c2,(ac x (by simp)).trans h.c3,(ac x (by simp)).trans h.c4,(ac x (by simp)).trans h.c5,(ac x (by simp)).trans h.c6,(ac x (by simp)).trans h.c7,(ac x (by simp)).trans h.c8,(ac x (by simp)).trans h.c9,(ac x (by simp)).trans h.c10,(ac x (by simp)).trans h.c11,(ac x (by simp)).trans h.c12,fun o=>by rw [World.frozen?_setCell];exact h.fz o⟩
theorem aC.set1 {w:World} {b:Nat} {u0 u1 u2 u3 u4 u5 u6 u7 u8 u9 u10 u11 u12:Value} (h:aC w b u0 u1 u2 u3 u4 u5 u6 u7 u8 u9 u10 u11 u12) (x:Value):aC (w.setCell ⟨b,1,none⟩ x) b u0 x u2 u3 u4 u5 u6 u7 u8 u9 u10 u11 u12 :=
 ⟨(ac x (by simp)).trans h.c0,World.cell?_setCell_same' _ _ _ (by rw [h.c1];rfl),(ac x (by simp)).trans h.c2,(ac x (by simp)).trans h.c3,(ac x (by simp)).trans h.c4,(ac x (by simp)).trans h.c5,(ac x (by simp)).trans h.c6,(ac x (by simp)).trans h.c7,(ac x (by simp)).trans h.c8,(ac x (by simp)).trans h.c9,(ac x (by simp)).trans h.c10,(ac x (by simp)).trans h.c11,(ac x (by simp)).trans h.c12,fun o=>by rw [World.frozen?_setCell];exact h.fz o⟩
theorem aC.set2 {w:World} {b:Nat} {u0 u1 u2 u3 u4 u5 u6 u7 u8 u9 u10 u11 u12:Value} (h:aC w b u0 u1 u2 u3 u4 u5 u6 u7 u8 u9 u10 u11 u12) (x:Value):aC (w.setCell ⟨b,2,none⟩ x) b u0 u1 x u3 u4 u5 u6 u7 u8 u9 u10 u11 u12 :=
 ⟨(ac x (by simp)).trans h.c0,(ac x (by simp)).trans h.c1,World.cell?_setCell_same' _ _ _ (by rw [h.c2];rfl),(ac x (by simp)).trans h.c3,(ac x (by simp)).trans h.c4,(ac x (by simp)).trans h.c5,(ac x (by simp)).trans h.c6,(ac x (by simp)).trans h.c7,(ac x (by simp)).trans h.c8,(ac x (by simp)).trans h.c9,(ac x (by simp)).trans h.c10,(ac x (by simp)).trans h.c11,(ac x (by simp)).trans h.c12,fun o=>by rw [World.frozen?_setCell];exact h.fz o⟩
theorem aC.set3 {w:World} {b:Nat} {u0 u1 u2 u3 u4 u5 u6 u7 u8 u9 u10 u11 u12:Value} (h:aC w b u0 u1 u2 u3 u4 u5 u6 u7 u8 u9 u10 u11 u12) (x:Value):aC (w.setCell ⟨b,3,none⟩ x) b u0 u1 u2 x u4 u5 u6 u7 u8 u9 u10 u11 u12 :=
 ⟨(ac x (by simp)).trans h.c0,(ac x (by simp)).trans h.c1,(ac x (by simp)).trans h.c2,World.cell?_setCell_same' _ _ _ (by rw [h.c3];rfl),(ac x (by simp)).trans h.c4,(ac x (by simp)).trans h.c5,(ac x (by simp)).trans h.c6,(ac x (by simp)).trans h.c7,(ac x (by simp)).trans h.c8,(ac x (by simp)).trans h.c9,(ac x (by simp)).trans h.c10,(ac x (by simp)).trans h.c11,(ac x (by simp)).trans h.c12,fun o=>by rw [World.frozen?_setCell];exact h.fz o⟩
theorem aC.set4 {w:World} {b:Nat} {u0 u1 u2 u3 u4 u5 u6 u7 u8 u9 u10 u11 u12:Value} (h:aC w b u0 u1 u2 u3 u4 u5 u6 u7 u8 u9 u10 u11 u12) (x:Value):aC (w.setCell ⟨b,4,none⟩ x) b u0 u1 u2 u3 x u5 u6 u7 u8 u9 u10 u11 u12 :=
 ⟨(ac x (by simp)).trans h.c0,(ac x (by simp)).trans h.c1,(ac x (by simp)).trans h.c2,(ac x (by simp)).trans h.c3,World.cell?_setCell_same' _ _ _ (by rw [h.c4];rfl),(ac x (by simp)).trans h.c5,(ac x (by simp)).trans h.c6,(ac x (by simp)).trans h.c7,(ac x (by simp)).trans h.c8,(ac x (by simp)).trans h.c9,(ac x (by simp)).trans h.c10,(ac x (by simp)).trans h.c11,(ac x (by simp)).trans h.c12,fun o=>by rw [World.frozen?_setCell];exact h.fz o⟩
theorem aC.set5 {w:World} {b:Nat} {u0 u1 u2 u3 u4 u5 u6 u7 u8 u9 u10 u11 u12:Value} (h:aC w b u0 u1 u2 u3 u4 u5 u6 u7 u8 u9 u10 u11 u12) (x:Value):aC (w.setCell ⟨b,5,none⟩ x) b u0 u1 u2 u3 u4 x u6 u7 u8 u9 u10 u11 u12 :=
 ⟨(ac x (by simp)).trans h.c0,(ac x (by simp)).trans h.c1,(ac x (by simp)).trans h.c2,(ac x (by simp)).trans h.c3,(ac x (by simp)).trans h.c4,World.cell?_setCell_same' _ _ _ (by rw [h.c5];rfl),(ac x (by simp)).trans h.c6,(ac x (by simp)).trans h.c7,(ac x (by simp)).trans h.c8,(ac x (by simp)).trans h.c9,(ac x (by simp)).trans h.c10,(ac x (by simp)).trans h.c11,(ac x (by simp)).trans h.c12,fun o=>by rw [World.frozen?_setCell];exact h.fz o⟩
theorem aC.set6 {w:World} {b:Nat} {u0 u1 u2 u3 u4 u5 u6 u7 u8 u9 u10 u11 u12:Value} (h:aC w b u0 u1 u2 u3 u4 u5 u6 u7 u8 u9 u10 u11 u12) (x:Value):aC (w.setCell ⟨b,6,none⟩ x) b u0 u1 u2 u3 u4 u5 x u7 u8 u9 u10 u11 u12 :=
 ⟨(ac x (by simp)).trans h.c0,(ac x (by simp)).trans h.c1,(ac x (by simp)).trans h.c2,(ac x (by simp)).trans h.c3,(ac x (by simp)).trans h.c4,(ac x (by simp)).trans h.c5,World.cell?_setCell_same' _ _ _ (by rw [h.c6];rfl),(ac x (by simp)).trans h.c7,(ac x (by simp)).trans h.c8,(ac x (by simp)).trans h.c9,(ac x (by simp)).trans h.c10,(ac x (by simp)).trans h.c11,(ac x (by simp)).trans h.c12,fun o=>by rw [World.frozen?_setCell];exact h.fz o⟩
theorem aC.set7 {w:World} {b:Nat} {u0 u1 u2 u3 u4 u5 u6 u7 u8 u9 u10 u11 u12:Value} (h:aC w b u0 u1 u2 u3 u4 u5 u6 u7 u8 u9 u10 u11 u12) (x:Value):aC (w.setCell ⟨b,7,none⟩ x) b u0 u1 u2 u3 u4 u5 u6 x u8 u9 u10 u11 u12 :=
 ⟨(ac x (by simp)).trans h.c0,(ac x (by simp)).trans h.c1,(ac x (by simp)).trans h.c2,(ac x (by simp)).trans h.c3,(ac x (by simp)).trans h.c4,(ac x (by simp)).trans h.c5,(ac x (by simp)).trans h.c6,World.cell?_setCell_same' _ _ _ (by rw [h.c7];rfl),(ac x (by simp)).trans h.c8,(ac x (by simp)).trans h.c9,(ac x (by simp)).trans h.c10,(ac x (by simp)).trans h.c11,(ac x (by simp)).trans h.c12,fun o=>by rw [World.frozen?_setCell];exact h.fz o⟩
theorem aC.set8 {w:World} {b:Nat} {u0 u1 u2 u3 u4 u5 u6 u7 u8 u9 u10 u11 u12:Value} (h:aC w b u0 u1 u2 u3 u4 u5 u6 u7 u8 u9 u10 u11 u12) (x:Value):aC (w.setCell ⟨b,8,none⟩ x) b u0 u1 u2 u3 u4 u5 u6 u7 x u9 u10 u11 u12 :=
 ⟨(ac x (by simp)).trans h.c0,(ac x (by simp)).trans h.c1,(ac x (by simp)).trans h.c2,(ac x (by simp)).trans h.c3,(ac x (by simp)).trans h.c4,(ac x (by simp)).trans h.c5,(ac x (by simp)).trans h.c6,(ac x (by simp)).trans h.c7,World.cell?_setCell_same' _ _ _ (by rw [h.c8];rfl),(ac x (by simp)).trans h.c9,(ac x (by simp)).trans h.c10,(ac x (by simp)).trans h.c11,(ac x (by simp)).trans h.c12,fun o=>by rw [World.frozen?_setCell];exact h.fz o⟩
theorem aC.set9 {w:World} {b:Nat} {u0 u1 u2 u3 u4 u5 u6 u7 u8 u9 u10 u11 u12:Value} (h:aC w b u0 u1 u2 u3 u4 u5 u6 u7 u8 u9 u10 u11 u12) (x:Value):aC (w.setCell ⟨b,9,none⟩ x) b u0 u1 u2 u3 u4 u5 u6 u7 u8 x u10 u11 u12 :=
 ⟨(ac x (by simp)).trans h.c0,(ac x (by simp)).trans h.c1,(ac x (by simp)).trans h.c2,(ac x (by simp)).trans h.c3,(ac x (by simp)).trans h.c4,(ac x (by simp)).trans h.c5,(ac x (by simp)).trans h.c6,(ac x (by simp)).trans h.c7,(ac x (by simp)).trans h.c8,World.cell?_setCell_same' _ _ _ (by rw [h.c9];rfl),(ac x (by simp)).trans h.c10,(ac x (by simp)).trans h.c11,(ac x (by simp)).trans h.c12,fun o=>by rw [World.frozen?_setCell];exact h.fz o⟩
theorem aC.set10 {w:World} {b:Nat} {u0 u1 u2 u3 u4 u5 u6 u7 u8 u9 u10 u11 u12:Value} (h:aC w b u0 u1 u2 u3 u4 u5 u6 u7 u8 u9 u10 u11 u12) (x:Value):aC (w.setCell ⟨b,10,none⟩ x) b u0 u1 u2 u3 u4 u5 u6 u7 u8 u9 x u11 u12 :=
 ⟨(ac x (by simp)).trans h.c0,(ac x (by simp)).trans h.c1,(ac x (by simp)).trans h.c2,(ac x (by simp)).trans h.c3,(ac x (by simp)).trans h.c4,(ac x (by simp)).trans h.c5,(ac x (by simp)).trans h.c6,(ac x (by simp)).trans h.c7,(ac x (by simp)).trans h.c8,(ac x (by simp)).trans h.c9,World.cell?_setCell_same' _ _ _ (by rw [h.c10];rfl),(ac x (by simp)).trans h.c11,(ac x (by simp)).trans h.c12,fun o=>by rw [World.frozen?_setCell];exact h.fz o⟩
theorem aC.set11 {w:World} {b:Nat} {u0 u1 u2 u3 u4 u5 u6 u7 u8 u9 u10 u11 u12:Value} (h:aC w b u0 u1 u2 u3 u4 u5 u6 u7 u8 u9 u10 u11 u12) (x:Value):aC (w.setCell ⟨b,11,none⟩ x) b u0 u1 u2 u3 u4 u5 u6 u7 u8 u9 u10 x u12 :=
 ⟨(ac x (by simp)).trans h.c0,(ac x (by simp)).trans h.c1,(ac x (by simp)).trans h.c2,(ac x (by simp)).trans h.c3,(ac x (by simp)).trans h.c4,(ac x (by simp)).trans h.c5,(ac x (by simp)).trans h.c6,(ac x (by simp)).trans h.c7,(ac x (by simp)).trans h.c8,(ac x (by simp)).trans h.c9,(ac x (by simp)).trans h.c10,World.cell?_setCell_same' _ _ _ (by rw [h.c11];rfl),(ac x (by simp)).trans h.c12,fun o=>by rw [World.frozen?_setCell];exact h.fz o⟩
theorem aC.set12 {w:World} {b:Nat} {u0 u1 u2 u3 u4 u5 u6 u7 u8 u9 u10 u11 u12:Value} (h:aC w b u0 u1 u2 u3 u4 u5 u6 u7 u8 u9 u10 u11 u12) (x:Value):aC (w.setCell ⟨b,12,none⟩ x) b u0 u1 u2 u3 u4 u5 u6 u7 u8 u9 u10 u11 x :=
 ⟨(ac x (by simp)).trans h.c0,(ac x (by simp)).trans h.c1,(ac x (by simp)).trans h.c2,(ac x (by simp)).trans h.c3,(ac x (by simp)).trans h.c4,(ac x (by simp)).trans h.c5,(ac x (by simp)).trans h.c6,(ac x (by simp)).trans h.c7,(ac x (by simp)).trans h.c8,(ac x (by simp)).trans h.c9,(ac x (by simp)).trans h.c10,(ac x (by simp)).trans h.c11,World.cell?_setCell_same' _ _ _ (by rw [h.c12];rfl),fun o=>by rw [World.frozen?_setCell];exact h.fz o⟩
theorem aC.sets {w:World} {b:Nat} {u0 u1 u2 u3 u4 u5 u6 u7 u8 u9 u10 u11 u12:Value} (h:aC w b u0 u1 u2 u3 u4 u5 u6 u7 u8 u9 u10 u11 u12) (x0 x1 x2 x3 x4 x5 x6 x7 x8 x9 x10 x11 x12:Value):aC (((((((((((((w.setCell ⟨b,0,none⟩ x0).setCell ⟨b,1,none⟩ x1).setCell ⟨b,2,none⟩ x2).setCell ⟨b,3,none⟩ x3).setCell ⟨b,4,none⟩ x4).setCell ⟨b,5,none⟩ x5).setCell ⟨b,6,none⟩ x6).setCell ⟨b,7,none⟩ x7).setCell ⟨b,8,none⟩ x8).setCell ⟨b,9,none⟩ x9).setCell ⟨b,10,none⟩ x10).setCell ⟨b,11,none⟩ x11).setCell ⟨b,12,none⟩ x12) b x0 x1 x2 x3 x4 x5 x6 x7 x8 x9 x10 x11 x12:=(((((((((((((h.set0 x0).set1 x1).set2 x2).set3 x3).set4 x4).set5 x5).set6 x6).set7 x7).set8 x8).set9 x9).set10 x10).set11 x11).set12 x12)
theorem bX {B b:Nat} {a w:World} (h:Below B a w) (hB:B≤b) (x0 x1 x2 x3 x4 x5 x6 x7 x8 x9 x10 x11 x12:Value):Below B a (((((((((((((w.setCell ⟨b,0,none⟩ x0).setCell ⟨b,1,none⟩ x1).setCell ⟨b,2,none⟩ x2).setCell ⟨b,3,none⟩ x3).setCell ⟨b,4,none⟩ x4).setCell ⟨b,5,none⟩ x5).setCell ⟨b,6,none⟩ x6).setCell ⟨b,7,none⟩ x7).setCell ⟨b,8,none⟩ x8).setCell ⟨b,9,none⟩ x9).setCell ⟨b,10,none⟩ x10).setCell ⟨b,11,none⟩ x11).setCell ⟨b,12,none⟩ x12):=((((((((((nY h hB x0 x1 x2 x3).setCell (p:=⟨b,4,none⟩) hB x4).setCell (p:=⟨b,5,none⟩) hB x5).setCell (p:=⟨b,6,none⟩) hB x6).setCell (p:=⟨b,7,none⟩) hB x7).setCell (p:=⟨b,8,none⟩) hB x8).setCell (p:=⟨b,9,none⟩) hB x9).setCell (p:=⟨b,10,none⟩) hB x10).setCell (p:=⟨b,11,none⟩) hB x11).setCell (p:=⟨b,12,none⟩) hB x12)
theorem cE {w:World} {b b' o:Nat} (h:b'≠b) (x0 x1 x2 x3 x4 x5 x6 x7 x8 x9 x10 x11 x12:Value):(((((((((((((w.setCell ⟨b,0,none⟩ x0).setCell ⟨b,1,none⟩ x1).setCell ⟨b,2,none⟩ x2).setCell ⟨b,3,none⟩ x3).setCell ⟨b,4,none⟩ x4).setCell ⟨b,5,none⟩ x5).setCell ⟨b,6,none⟩ x6).setCell ⟨b,7,none⟩ x7).setCell ⟨b,8,none⟩ x8).setCell ⟨b,9,none⟩ x9).setCell ⟨b,10,none⟩ x10).setCell ⟨b,11,none⟩ x11).setCell ⟨b,12,none⟩ x12).cell? ⟨b',o,none⟩=w.cell? ⟨b',o,none⟩:=by
 iterate 13 rw [ac _ (fun e=>h e.1)]
theorem eI (w:World) (b:Nat) (x0 x1 x2 x3 x4 x5 x6 x7 x8 x9 x10 x11 x12:Value):(((((((((((((w.setCell ⟨b,0,none⟩ x0).setCell ⟨b,1,none⟩ x1).setCell ⟨b,2,none⟩ x2).setCell ⟨b,3,none⟩ x3).setCell ⟨b,4,none⟩ x4).setCell ⟨b,5,none⟩ x5).setCell ⟨b,6,none⟩ x6).setCell ⟨b,7,none⟩ x7).setCell ⟨b,8,none⟩ x8).setCell ⟨b,9,none⟩ x9).setCell ⟨b,10,none⟩ x10).setCell ⟨b,11,none⟩ x11).setCell ⟨b,12,none⟩ x12).heap.size=w.heap.size:=by simp [World.setCell]
theorem rT {w:World} {a:Option Addr} {len cap b:Nat} {L:List ae} (h:au w a len cap L) (hx:∀x,a=some x→0<len→x.block≠b) (x0 x1 x2 x3 x4 x5 x6 x7 x8 x9 x10 x11 x12:Value):au (((((((((((((w.setCell ⟨b,0,none⟩ x0).setCell ⟨b,1,none⟩ x1).setCell ⟨b,2,none⟩ x2).setCell ⟨b,3,none⟩ x3).setCell ⟨b,4,none⟩ x4).setCell ⟨b,5,none⟩ x5).setCell ⟨b,6,none⟩ x6).setCell ⟨b,7,none⟩ x7).setCell ⟨b,8,none⟩ x8).setCell ⟨b,9,none⟩ x9).setCell ⟨b,10,none⟩ x10).setCell ⟨b,11,none⟩ x11).setCell ⟨b,12,none⟩ x12) a len cap L:=(((((((((((((h.setCell ⟨b,0,none⟩ x0 hx).setCell ⟨b,1,none⟩ x1 hx).setCell ⟨b,2,none⟩ x2 hx).setCell ⟨b,3,none⟩ x3 hx).setCell ⟨b,4,none⟩ x4 hx).setCell ⟨b,5,none⟩ x5 hx).setCell ⟨b,6,none⟩ x6 hx).setCell ⟨b,7,none⟩ x7 hx).setCell ⟨b,8,none⟩ x8 hx).setCell ⟨b,9,none⟩ x9 hx).setCell ⟨b,10,none⟩ x10 hx).setCell ⟨b,11,none⟩ x11 hx).setCell ⟨b,12,none⟩ x12 hx)
end Go.Proofs.YtgpcinihgofmfaaGreatDoor

namespace Go.Proofs.YtgpcinihgofmfaaGreatDoor
open Go.RowKit
set_option maxRecDepth 100000
set_option maxHeartbeats 8000000
def OpE (lg:ByteArray) (sd:Int) (d0 d1 d2:Value) (w:World) (e:Ending) (w':World):Prop:=∃(P:List (List ae)) (k g N:Nat) (T:ByteArray),bG lg.data.toList P k∧N=(P.map (aP sd)).flatten.length∧T=⟨(ft (bz sd P)).toArray⟩∧e=.returned (.agg #[.bool true,iT (bc sd P),sL g N N,d0,d1,d2,nZ,.string T,iT (T.size:Int),d0,d1,d2,iT sd])∧au w' (pT g) N N (bw (P.map (aP sd)).flatten)∧Bl w w'
theorem rI (t0 t1 t2 t3 t4 t5:Value) (lg:ByteArray) (sf sd:Int) (d0 d1 d2:Option Addr) (m0 e0 m1 e1 m2 e2:Nat) (w:World) (hlg:lg.size≤1048576) (hE:fX w.heap.size w) (hT:jI w.heap.size w) :
 Calls Tryz.prog 36 #[.agg #[.bool false,t0,t1,t2,t3,t4,t5,.string lg,iT sf,.slice d0 m0 e0,.slice d1 m1 e1,.slice d2 m2 e2,iT sd]] w (OpE lg sd (.slice d0 m0 e0) (.slice d1 m1 e1) (.slice d2 m2 e2) w):=by
 obtain ⟨X,hX⟩:=aw w.heap.size;obtain ⟨W,hW⟩:=aw ((w.alloc (.cells #[.bool false,t0,t1,t2,t3,t4,t5,.string lg,iT sf,.slice d0 m0 e0,.slice d1 m1 e1,.slice d2 m2 e2,iT sd] 68)).alloc (.cells #[.bool false,iT 0,nZ,nZ,nZ,nZ,nZ,.string ⟨#[]⟩,iT 0,nZ,nZ,nZ,iT 0] 68));have kW:Bl w W:=by rw [hW];exact bZ.alloc (by simp) _
 have bx:aC W X (.bool false) t0 t1 t2 t3 t4 t5 (.string lg) (iT sf) (.slice d0 m0 e0) (.slice d1 m1 e1) (.slice d2 m2 e2) (iT sd):=by rw [hW,hX];exact (aC.new _ _ _ _ _ _ _ _ _ _ _ _ _ _ _).alloc _
 have br:aC W (X+1) (.bool false) (iT 0) nZ nZ nZ nZ nZ (.string ⟨#[]⟩) (iT 0) nZ nZ nZ (iT 0):=by
  have:=aC.new (w.alloc (.cells #[.bool false,t0,t1,t2,t3,t4,t5,.string lg,iT sf,.slice d0 m0 e0,.slice d1 m1 e1,.slice d2 m2 e2,iT sd] 68)) 68 (.bool false) (iT 0) nZ nZ nZ nZ nZ (.string ⟨#[]⟩) (iT 0) nZ nZ nZ (iT 0);rw [World.size_alloc] at this;rw [hW,hX];exact this
 have HXW:=ar hX;have HBX:=ar bx;have HBR:=ar br;have HKW:=ar kW;have CR:=kK lg sf sd d0 d1 d2 m0 e0 m1 e1 m2 e2 W hlg (fun w' kk=>hE w' (kW.trans (kk.mono kW.size))) (fun w' kk=>hT w' (kW.trans (kk.mono kW.size)));have c0:=bx.c0;have c7:=bx.c7;have c8:=bx.c8;have c9:=bx.c9;have c10:=bx.c10;have c11:=bx.c11;have c12:=bx.c12;have cz:=bx.lt;clear kW bx br hE hT;go_enter Tryz.func36,Tryz.ntmps36
 go_upto_region 1 with fail
 rw [← hX,← hW];clear hX hW;go_wp2_with fail
 refine CR.mono ?_;rintro e w1 ⟨P,k,g,N,hwh,hN,rfl,hEn,hb1⟩;have HWH:=ar hwh;have HN:=ar hN;have HE1:=ar hEn;have HB1:=ar hb1;clear hwh hN hEn hb1 CR c0 c7 c8 c9 c10 c11 c12 cz;go_upto_region 4 with fail
 obtain ⟨T,hTT⟩:∃T:ByteArray,T=⟨(ft (bz sd P)).toArray⟩:=⟨_,rfl⟩;have HTT:=ar hTT;obtain ⟨LQ,hLQ⟩:=aw (bc sd P);have HLQ:=ar hLQ;rw [← hTT,← hLQ];obtain ⟨w2,hw2⟩:=aw (w1.alloc (.cells #[iT LQ,sL g N N,.slice d0 m0 e0,.slice d1 m1 e1,.slice d2 m2 e2,nZ] 64));obtain ⟨Y,hY⟩:=aw w1.heap.size;have k2:Bl w1 w2:=by rw [hw2];exact bZ
 have HK2:Hid (Bl W w2):=HB1.out.trans (k2.mono HB1.out.size);have by2:aV w2 Y (iT LQ) (sL g N N) (.slice d0 m0 e0) (.slice d1 m1 e1) (.slice d2 m2 e2) nZ:=by rw [hw2,hY];exact aV.new _ _ _ _ _ _ _ _
 have HBY:=ar by2;have HE2:=ar (HE1.out.keep k2);have hyx:Y≠X+1:=by
  have h1:=HBR.out.lt;have h2:=HB1.out.size;omega
 have HYX:=ar hyx;have HXL:=ar (HBX.out.keep HK2.out);have HRL:=ar (HBR.out.keep HK2.out);have HMK:Hid (∀w',Bl w2 w'→(w'.cell? ⟨Y,0,none⟩=some (iT LQ)∧w'.cell? ⟨Y,1,none⟩=some (sL g N N)∧w'.cell? ⟨Y,2,none⟩=some (.slice d0 m0 e0)∧w'.cell? ⟨Y,3,none⟩=some (.slice d1 m1 e1)∧w'.cell? ⟨Y,4,none⟩=some (.slice d2 m2 e2)∧w'.cell? ⟨Y,5,none⟩=some nZ∧w'.cell? ⟨X,7,none⟩=some (.string lg)∧w'.cell? ⟨X,8,none⟩=some (iT sf)∧w'.cell? ⟨X,9,none⟩=some (.slice d0 m0 e0)∧w'.cell? ⟨X,10,none⟩=some (.slice d1 m1 e1)∧w'.cell? ⟨X,11,none⟩=some (.slice d2 m2 e2)∧w'.cell? ⟨X,12,none⟩=some (iT sd)∧Y<w'.heap.size∧X<w'.heap.size)):=fun w' k=>⟨cell_later k by2.c0,cell_later k by2.c1,cell_later k by2.c2,cell_later k by2.c3,cell_later k by2.c4,cell_later k by2.c5,cell_later k HXL.out.c7,cell_later k HXL.out.c8,cell_later k HXL.out.c9,cell_later k HXL.out.c10,cell_later k HXL.out.c11,cell_later k HXL.out.c12,Nat.lt_of_lt_of_le by2.lt k.size,Nat.lt_of_lt_of_le HXL.out.lt k.size⟩
 rw [← hw2,← hY];have k0:Bl w2 w2.drew:=(Below.refl _ w2).drew;clear hw2 hY k2 by2 hyx hTT hLQ HE1;refine dI HMK k0 fun aa=>?_
 generalize w2.drew=wd at k0 aa ⊢;refine aM 0 4 aa ?_;refine aR 4 fun K hK=>?_
 go_simp;refine (pW T wd).mono ?_;rintro e w3 ⟨b,rfl,hcb,hb3⟩;have K3:Hid (Bl w2 w3):=k0.trans (hb3.mono k0.size);have HCB:=ar hcb;clear hcb hb3;go_wp2_with fail
 refine hK.out _ _ (HMK.out _ K3.out) fun aa=>?_
 (try go_frame);refine aR 5 fun K hK=>?_
 go_simp;have k4:Bl w3 (w3.alloc (.cells #[.func (.func 114) #[] #[.pointer (pT b)]] 109)):=bZ;have K4:=ar (K3.out.trans (k4.mono K3.out.size));have HCR:Hid ((w3.alloc (.cells #[.func (.func 114) #[] #[.pointer (pT b)]] 109)).cell? ⟨w3.heap.size,0,none⟩=some (.func (.func 114) #[] #[.pointer (pT b)])):=by show _=_;simp
 have HCB4:=ar (cell_later k4 HCB.out);refine hK.out _ _ (HMK.out _ K4.out) fun aa=>?_
 (try go_frame);generalize w3.alloc (.cells #[.func (.func 114) #[] #[.pointer (pT b)]] 109)=w4 at k4 K4 HCR HCB4 aa ⊢;generalize w3.heap.size=r at HCR ⊢;clear k4 HCB;refine aR 6 fun K hK=>?_
 go_simp;refine (wS r b T lg (iT sf) d0 d1 d2 m0 e0 m1 e1 m2 e2 sd w4 HCB4.out HCR.out).mono ?_;rintro e w5 ⟨rfl,hb5⟩;have K5:Hid (Bl w2 w5):=K4.out.trans (hb5.mono K4.out.size);clear hb5;go_wp2_with fail
 refine hK.out _ _ (HMK.out _ K5.out) fun aa=>?_
 (try go_frame);refine aM 7 1 aa ?_;have hr:=HRL.out.keep K5.out;have r0:=hr.c0;have r1:=hr.c1;have r2:=hr.c2;have r3:=hr.c3;have r4:=hr.c4;have r5:=hr.c5;have r6:=hr.c6;have r7:=hr.c7;have r8:=hr.c8;have r9:=hr.c9;have r10:=hr.c10;have r11:=hr.c11;have r12:=hr.c12;have rf:=hr.fz;have rz:=hr.lt;refine aR 8 fun K hK=>?_
 go_simp;have hne:X≠X+1:=by omega
 have hyx:=HYX.out;have HE5:=ar (HE2.out.keep K5.out);have hxg:∀x,(some ⟨g,0,none⟩:Option Addr)=some x→0<N→x.block≠X+1:=by
  intro x ex hN0 hx;cases ex;have hx':g=X+1:=hx;subst hx';obtain ⟨es,eq,ed,et,en,_,_,e0',_⟩:=HE5.out.ent (Below.refl _ w5) hr.lt 0 hN0;have e1:w5.cell? ⟨X+1,0,none⟩=some (.string es):=by simpa using e0'
  rw [r0] at e1;cases e1
 obtain ⟨wz,hwz⟩:=aw ((((((((((((((w5.setCell ⟨X+1,0,none⟩ (.bool true)).setCell ⟨X+1,1,none⟩ (iT LQ)).setCell ⟨X+1,2,none⟩ (sL g N N)).setCell ⟨X+1,3,none⟩ (.slice d0 m0 e0)).setCell ⟨X+1,4,none⟩ (.slice d1 m1 e1)).setCell ⟨X+1,5,none⟩ (.slice d2 m2 e2)).setCell ⟨X+1,6,none⟩ nZ).setCell ⟨X+1,7,none⟩ (.string T)).setCell ⟨X+1,8,none⟩ (iT (T.size:Int))).setCell ⟨X+1,9,none⟩ (.slice d0 m0 e0)).setCell ⟨X+1,10,none⟩ (.slice d1 m1 e1)).setCell ⟨X+1,11,none⟩ (.slice d2 m2 e2)).setCell ⟨X+1,12,none⟩ (iT sd)));have HEZ:Hid (au wz (pT g) N N (bw (P.map (aP sd)).flatten)):=by
  rw [hwz];exact rT HE5.out hxg (.bool true) (iT LQ) (sL g N N) (.slice d0 m0 e0) (.slice d1 m1 e1) (.slice d2 m2 e2) nZ (.string T) (iT (T.size:Int)) (.slice d0 m0 e0) (.slice d1 m1 e1) (.slice d2 m2 e2) (iT sd)
 have HRZ:Hid (aC wz (X+1) (.bool true) (iT LQ) (sL g N N) (.slice d0 m0 e0) (.slice d1 m1 e1) (.slice d2 m2 e2) nZ (.string T) (iT (T.size:Int)) (.slice d0 m0 e0) (.slice d1 m1 e1) (.slice d2 m2 e2) (iT sd)):=by rw [hwz];exact hr.sets (.bool true) (iT LQ) (sL g N N) (.slice d0 m0 e0) (.slice d1 m1 e1) (.slice d2 m2 e2) nZ (.string T) (iT (T.size:Int)) (.slice d0 m0 e0) (.slice d1 m1 e1) (.slice d2 m2 e2) (iT sd)
 have HKZ:Hid (Bl w wz):=by
  rw [hwz];exact bX (HKW.out.trans (K5.out.mono (Nat.le_refl _) |> fun k=>(HK2.out.trans (k.mono HK2.out.size)).mono HKW.out.size)) (by have:=HXW.out;omega) (.bool true) (iT LQ) (sL g N N) (.slice d0 m0 e0) (.slice d1 m1 e1) (.slice d2 m2 e2) nZ (.string T) (iT (T.size:Int)) (.slice d0 m0 e0) (.slice d1 m1 e1) (.slice d2 m2 e2) (iT sd)
 have hcY:∀o,wz.cell? ⟨Y,o,none⟩=w5.cell? ⟨Y,o,none⟩:=fun o=>by rw [hwz];exact cE hyx (.bool true) (iT LQ) (sL g N N) (.slice d0 m0 e0) (.slice d1 m1 e1) (.slice d2 m2 e2) nZ (.string T) (iT (T.size:Int)) (.slice d0 m0 e0) (.slice d1 m1 e1) (.slice d2 m2 e2) (iT sd)
 have hcX:∀o,wz.cell? ⟨X,o,none⟩=w5.cell? ⟨X,o,none⟩:=fun o=>by rw [hwz];exact cE hne (.bool true) (iT LQ) (sL g N N) (.slice d0 m0 e0) (.slice d1 m1 e1) (.slice d2 m2 e2) nZ (.string T) (iT (T.size:Int)) (.slice d0 m0 e0) (.slice d1 m1 e1) (.slice d2 m2 e2) (iT sd)
 have hsz:wz.heap.size=w5.heap.size:=by rw [hwz];exact eI w5 (X+1) (.bool true) (iT LQ) (sL g N N) (.slice d0 m0 e0) (.slice d1 m1 e1) (.slice d2 m2 e2) nZ (.string T) (iT (T.size:Int)) (.slice d0 m0 e0) (.slice d1 m1 e1) (.slice d2 m2 e2) (iT sd)
 have hS:=HMK.out _ K5.out;rw [← hcY,← hcY,← hcY,← hcY,← hcY,← hcY,← hcX,← hcX,← hcX,← hcX,← hcX,← hcX,← hsz] at hS;rw [← hwz];clear hwz hcY hcX hsz r0 r1 r2 r3 r4 r5 r6 r7 r8 r9 r10 r11 r12 rf rz hr hne hyx hxg;refine hK.out _ _ hS fun aa=>?_
 (try go_frame);refine dN ?_;go_wp2;refine bodyPost_ret (v:=.agg #[.bool true,iT LQ,sL g N N,.slice d0 m0 e0,.slice d1 m1 e1,.slice d2 m2 e2,nZ,.string T,iT (T.size:Int),.slice d0 m0 e0,.slice d1 m1 e1,.slice d2 m2 e2,iT sd]) ?_ rfl ?_
 · have e:=HRZ.out;simp [results,Tryz.results36,go_sem,e.c0,e.c1,e.c2,e.c3,e.c4,e.c5,e.c6,e.c7,e.c8,e.c9,e.c10,e.c11,e.c12]
 · exact ⟨P,k,g,N,T,HWH.out,HN.out,HTT.out,by rw [HLQ.out],HEZ.out,HKZ.out⟩
end Go.Proofs.YtgpcinihgofmfaaGreatDoor

namespace Go.Proofs.YtgpcinihgofmfaaGreatDoor
open Go.RowKit
set_option maxRecDepth 100000
theorem rZ {s s':ByteArray} (h:¬s=s'):¬s.toList=s'.toList:=fun e=>h (by
 rw [ByteArray.toList_eq,ByteArray.toList_eq] at e
 obtain ⟨⟨x⟩⟩:=s
 obtain ⟨⟨y⟩⟩:=s'
 simpa using e)
theorem kG (s t:ByteArray) (q d n:Int) (w:World):(binOp .neq 123 (.agg #[.string s,iT q,iT d,.string t,iT n]) (.agg #[.string s,iT q,iT d,.string t,iT n])).run Tryz.prog w=.ok (.bool false) w:=by
 have hs:=run_equalIn_struct (P:=Tryz.prog) w 9999 123 #[.string s,iT q,iT d,.string t,iT n] #[.string s,iT q,iT d,.string t,iT n] (by kernel_rfl) (by kernel_rfl);simp [binOp,Op.equal,Op.maxDepth,hs,go_sem,Tryz.underlying123]
theorem kH (s t:ByteArray) (q d n:Int) (s' t':ByteArray) (q' d' n':Int) (w:World) (h:¬((s,q,d,t,n):ae)=(s',q',d',t',n')):(binOp .neq 123 (.agg #[.string s,iT q,iT d,.string t,iT n]) (.agg #[.string s',iT q',iT d',.string t',iT n'])).run Tryz.prog w=.ok (.bool true) w:=by
 have hs:=run_equalIn_struct (P:=Tryz.prog) w 9999 123 #[.string s,iT q,iT d,.string t,iT n] #[.string s',iT q',iT d',.string t',iT n'] (by kernel_rfl) (by kernel_rfl);by_cases h1:s=s'
 · subst h1;by_cases h2:q=q'
   · subst h2;by_cases h3:d=d'
     · subst h3;by_cases h4:t=t'
       · subst h4;have h5:¬n=n':=fun e=>h (by rw [e])
         simp [binOp,Op.equal,Op.maxDepth,hs,go_sem,Tryz.underlying123,h5]
       · have h4':=rZ h4;simp [binOp,Op.equal,Op.maxDepth,hs,go_sem,Tryz.underlying123,h4']
     · simp [binOp,Op.equal,Op.maxDepth,hs,go_sem,Tryz.underlying123,h3]
   · simp [binOp,Op.equal,Op.maxDepth,hs,go_sem,Tryz.underlying123,h2]
 · have h4:=rZ h1;simp [binOp,Op.equal,Op.maxDepth,hs,go_sem,Tryz.underlying123,h4]
theorem kR {L1 L2:List ae} {k:Nat} {l:ae} (h1:L1[k]?=some l) (h2:L2[k]?=some l) (h:L1.take k=L2.take k):L1.take (k+1)=L2.take (k+1):=by
 rw [List.take_add_one,List.take_add_one,h1,h2,h]
end Go.Proofs.YtgpcinihgofmfaaGreatDoor
namespace Go.Proofs.YtgpcinihgofmfaaGreatDoor
open Go.RowKit
set_option maxRecDepth 100000
end Go.Proofs.YtgpcinihgofmfaaGreatDoor
